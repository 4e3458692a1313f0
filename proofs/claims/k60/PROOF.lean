import PyProof.Rows.All
import Wide.All
import OpenK.AllK
import Wide.FinOn
import HandS.ForMost
import HandS.IsInst
import HandS.Flow
import HandS.TupAny
import HandS.TupMul
import HandS.Deep
import HandS.Wide
import KE.KDictPairs
import HandS.Lambda
import KE.KeyNested
import PyProof.P3In
import KE.KEqDict
import PyProof.EqKinds
import HandS.Style
import HandS.Small
import HandS.Conv
import HandS.SetKeys
import HandS.Zip
import HandS.Set
import HandS.Strs
import HandS.SetFor
import HandS.TupSets
import HandS.SortInts
import PyProof.Rows.SortShellAny
import PyProof.Rows.ReprShort
import HandS.DictComp
import HandS.Exc
import HandS.ExcOwn
import HandS.ExcIs
import HandS.ExcValue
import HandS.WordsExc
import HandS.Nested
import KE.KNest
import HandS.More
import HandS.StrMore
import KE.GoesMore
import KE.GoesZip
import HandS.WordsDict
import HandS.SortRule
import HandS.HotCalls
import HandS.Replace
import HandS.TryMany
import HandS.ReplaceLit
import HandS.ReplaceList
import HandS.Codes
import PySem.Challenge.RW_openfrozen_k60_webs_as_texts
set_option Elab.async false
set_option linter.all false
set_option maxRecDepth 100000
set_option maxHeartbeats 4000000
/-! tuples whose very object is known: it has no dict of its own -/
namespace Sim
open PySem PySem.Spec PyProof.Rows L2
def tupO (its : List Value) : Obj := { cls := .type "tuple", data := .seq its.toArray }
/-- a tuple without a dict of its own -/
def SqN (K : PySem.W.Frag) (H : Hp) (a : Addr) (xs : List V) : Prop :=
  (∃ o : Obj, o.dict = none ∧ H a = some (.frz o (.tup xs))) ∨
    ∃ (o : Obj) (its : Array Value) (n : Nat), o.dict = none ∧ (K.lookup a = some o ∧ o.cls = .type "tuple" ∧ o.data = .seq its n ∧ its.size ≤ sizeLine ∧ Vals xs its.toList)
theorem SqN.t {K : PySem.W.Frag} {H : Hp} {a : Addr} {xs : List V} (h : SqN K H a xs) : SqT K H a xs := by
  rcases h with ⟨o, _, e⟩ | ⟨o, its, n, _, e⟩
  · exact .inl (.inr ⟨o, e⟩)
  · exact .inr ⟨o, its, n, e⟩
/-- what is wanted of a new tuple -/
def NewT (xs : List V) (H : Hp) (Q : VK) : Prop := ∀ (p : Addr) (o : Obj), o.dict = none → H p = none → Q (.ref p) (upd H p (.frz o (.tup xs)))
section
variable {X : Cx} {pins : List (Addr × Obj)} {σ : L2.St} {H : Hp} {s : Shared} {xs : List V} {its : List Value} {a : Addr}
theorem inv_tup (I : Inv X pins σ H s) (r : Vals xs its) (z : xs.length ≤ sizeLine) : Inv X pins σ (upd H s.heap.objs.size (.frz (tupO its) (.tup xs))) { s with heap := s.heap.push (tupO its) } :=
  I.laid (t' := s.toks) (fun _ _ q => Heap.get?_push_of_some _ q) (Nat.le_refl _) ⟨Heap.get?_push_size _ rfl, z, its, r, _, Heap.get?_push_size _ rfl, rfl, _, rfl⟩
theorem ep_tup {Q : VK} (I : Inv X pins σ H s) (r : Vals xs its) (z : xs.length ≤ sizeLine) (q : NewT xs H Q) : EP X pins σ Q (.ref s.heap.objs.size) { s with heap := s.heap.push (tupO its) } :=
  ⟨.ref s.heap.objs.size, _, inv_tup I r z, rfl, q _ _ rfl (I.hok.fresh (Nat.le_refl _))⟩
end
/-! the rules that make tuples -/
section
variable {X : Cx} {es : List Expr} {t : TA} {pos : Pos}
def tTupN (t : TA) : TE := fun σ H Q => t σ H fun xs H1 => xs.length ≤ sizeLine ∧ NewT xs H1 Q
theorem pe_tupN {k : Nat} (h : PA X es t) : PE X (.Tuple es k pos) (tTupN t) :=
  ⟨fun pp s σ H Q I q0 => wpAny_Tuple_spliced (thn (h.run pos pp s σ H _ I q0) fun us s1 ⟨ys, H1, I1, r, z, q⟩ => ⟨by rw [← r.length]; exact z, ep_tup I1 r z q⟩)⟩
theorem call_tupN : CallR X (.type "tuple") (fun xs H Q => ∃ p ys, xs = [.ref p] ∧ ((SqL X.K H p ys ∧ NewT ys H Q) ∨ (SqT X.K H p ys ∧ Q (.ref p) H))) := by
  intro pp s σ H xs us Q I r0 h0
  obtain ⟨a, ys, rfl, h0⟩ := h0
  obtain ⟨u, rfl, ru⟩ := vals1 r0
  cases ru
  rcases h0 with ⟨hl, q⟩ | ⟨ht, q⟩
  · obtain ⟨its, r1, pl, z⟩ := I.list hl
    have le := r1.length
    exact call_tuple_list pl.isList (fun h' kp => ep_tup (I.kept (t' := s.toks) kp) r1 z q) (by simp only [List.size_toArray] <;> omega)
  · obtain ⟨its, _, pt, _⟩ := I.tuple ht
    exact call_tuple_same pt ⟨.ref a, H, I, rfl, q⟩
def rCatN (K : PySem.W.Frag) : R2 := fun x y H Q => ∃ a b xs ys, x = .ref a ∧ y = .ref b ∧ SqT K H a xs ∧ SqT K H b ys ∧ xs.length + ys.length ≤ sizeLine ∧
  (xs = [] → Q (.ref b) H) ∧ (xs ≠ [] → ys = [] → Q (.ref a) H) ∧ (xs ≠ [] → ys ≠ [] → NewT (xs ++ ys) H Q)
theorem op_catN : OpR X (binaryOp .Add) (rCatN X.K) := by
  intro pp s σ H x y v u Q I rx ry h0
  obtain ⟨a, b, xs, ys, rfl, rfl, ha, hb, hz, q0, q1, q2⟩ := h0
  cases rx; cases ry
  obtain ⟨ia, ra, pa, _⟩ := I.tuple ha
  obtain ⟨ib, rb, pb, _⟩ := I.tuple hb
  by_cases e : xs = []
  · subst e
    cases ra
    exact cat_tup0 pa pb ⟨.ref b, H, I, rfl, q0 rfl⟩
  · refine HT.cat_tup pa pb (fun z => e (ra.nil_iff.mp z)) (fun z => ⟨.ref a, H, I, rfl, q1 e (rb.nil_iff.mp z)⟩) (fun z => ?_) (by rw [← ra.length, ← rb.length]; exact hz)
    exact ep_tup I (ra.append rb) (by rw [List.length_append]; exact hz) (q2 e fun w => z (rb.nil_iff.mpr w))
def rSlN (K : PySem.W.Frag) : V → Option Int → Option Int → Hp → VK → Prop := fun x lo hi H Q => ∃ a xs, x = .ref a ∧ SqT K H a xs ∧
  (HT.sIx xs.length 0 lo = 0 ∧ HT.sIx xs.length xs.length hi = xs.length → Q (.ref a) H) ∧ (¬ (HT.sIx xs.length 0 lo = 0 ∧ HT.sIx xs.length xs.length hi = xs.length) → NewT (cutV xs lo hi) H Q)
theorem sl_tupN : SlR X (rSlN X.K) := by
  intro pp s σ H x v vl vu lo hi sl Q I rx hs pl pu h0
  obtain ⟨a, xs, rfl, hx, q1, q2⟩ := h0
  cases rx
  obtain ⟨its, r, ht, hz⟩ := I.tuple hx
  have le : its.toArray.size = xs.length := by rw [List.size_toArray]; exact r.length.symm
  refine ⟨"tuple", _, PyProof.Rows.slot_tuple_getitem.lookup, ht.typeIs, ?_⟩
  by_cases w : HT.sIx xs.length 0 lo = 0 ∧ HT.sIx xs.length xs.length hi = xs.length
  · exact getItem_tuple_whole ht hs pl pu (by rw [le]; exact w) ⟨.ref a, H, I, rfl, q1 w⟩
  · refine HT.getItem_tuple_cut ht hs pl pu (by rw [le]; exact w) ?_ (by rw [le]; exact hz)
    rw [le]
    exact ep_tup I ((r.drop (HT.sIx xs.length 0 lo)).take (HT.sIx xs.length xs.length hi - HT.sIx xs.length 0 lo)) (Nat.le_trans (cutV_length xs lo hi) hz) (q2 w)
end
section
variable {X : Cx}
def rRepN (K : PySem.W.Frag) : R2 := fun x y H Q => ∃ l k xs, x = .ref l ∧ y = .int k ∧ SqT K H l xs ∧ xs ≠ [] ∧ 2 ≤ k ∧ k ≤ 1000 ∧ xs.length ≤ 1000 ∧ NewT (List.replicate k.toNat xs).flatten H Q
theorem op_repN : OpR X (binaryOp .Mult) (rRepN X.K) := by
  intro pp s σ H x y v u Q I rx ry h0
  obtain ⟨a, m, xs, rfl, rfl, ht, ne, m1, m2, hz, q⟩ := h0
  cases rx
  obtain ⟨tk, rfl⟩ := ry
  obtain ⟨its, r, ⟨⟨cls, od, dat, slo⟩, ho, hc, nn, hd⟩, _⟩ := I.tuple ht
  simp only at hc hd
  subst hc hd
  have le : its.length = xs.length := r.length.symm
  have pos : 0 < its.length := by
    rw [le]
    cases xs with
    | nil => exact absurd rfl ne
    | cons _ _ => simp
  have em : its.toArray.isEmpty = false := by
    cases its with
    | nil => simp at pos
    | cons _ _ => rfl
  have sz : its.toArray.size = xs.length := by rw [List.size_toArray, le]
  have big : ((its.toArray.size : Nat) : Int) * m ≤ 1000000 := by
    have z : ((xs.length : Nat) : Int) * m ≤ 1000 * m := Int.mul_le_mul_of_nonneg_right (by omega) (by omega)
    rw [sz]; omega
  have bigN : m.toNat * xs.length ≤ 1000 * 1000 := Nat.mul_le_mul (by omega) hz
  have room : (List.replicate m.toNat its).flatten.length ≤ sizeLine := by
    rw [PyProof.Rows.lm_len_rep_flat, le, sizeLine_eq]; omega
  have d0 : (decide (m < -(2 ^ 63)) || decide (m ≥ 2 ^ 63)) = false := by
    rw [decide_eq_false (show ¬ m < -(2 ^ 63) by omega), decide_eq_false (show ¬ m ≥ 2 ^ 63 by omega)] <;> rfl
  have d1 : (its.toArray.isEmpty || m == 1) = false := by
    rw [em, Bool.false_or]; exact beq_eq_false_iff_ne.mpr (by omega)
  have d2 : (decide (m ≤ 0) || its.toArray.isEmpty) = false := by
    rw [em, Bool.or_false]; exact decide_eq_false (by omega)
  have d4 : Builtin.Tuple.tupleTooMany (((its.toArray.size : Nat) : Int) * m) = false := by
    unfold Builtin.Tuple.tupleTooMany
    rw [sizeLine_eq]; exact decide_eq_false (by omega)
  have tyT : s.TypeIs (.ref a) "tuple" := ⟨_, ho, rfl⟩
  refine wpAny_binaryOp_repeat_ref (T := "tuple") (U := "int") (by decide) tyT (fun s' => typeIs_int s' m tk) noFill_tuple_mul PySem.F.fills_int_mul PySem.F.slot_int_rmul repeat_tuple PySem.F.slot_int_index.lookup
    (call_meets PySem.F.slot_int_rmul (typeIs_int s m tk) PySem.F.entry_int_rmul (PySem.F.args_int_rmul_2 _ _) (int_rmul_tuple m tk a its.toArray nn od slo) ⟨ho, rfl, tyT, call_meets PySem.F.slot_tuple_mul tyT PySem.F.entry_tuple_mul (PySem.F.args_tuple_mul_2 _ _) (tuple_mulW a its.toArray nn od slo m tk d0 d1 d2 (by omega) d4 (by rw [size_rep, List.size_toArray]; exact room)) ⟨ho, ?_⟩⟩)
  rw [size_rep]
  exact ep_tup I (r.rep m.toNat) (by rw [PyProof.Rows.lm_len_rep_flat, sizeLine_eq]; omega) q
end
/-! dict(t) of a tuple of pairs -/
end Sim
set_option Elab.async false
set_option linter.all false
set_option maxRecDepth 100000
set_option maxHeartbeats 4000000
/-! own layer: a def as a plain function over trees of data and a small store of what is still changed -/
namespace Sim
open PySem PySem.Spec PyProof.Rows L2
/-- the tables of code objects that are told, with the name of what is made there -/
class Tb where
  tabs : List (Addr × Str)
  /-- the hash of a key that is a tuple, in the world of the law -/
  hs : NestedKey → Int
/-- the slots of a frame that hold a lambda which it was handed -/
class Lm where
  at_ : Nat → Option Addr
variable [Tb] [Lm]
/-- known, and no table -/
def nt (H : Hp) (a : Addr) : Prop := ∃ o, H a = some o ∧ ∀ ps, o ≠ HO.tbl ps
theorem nt.ne {H : Hp} {a : Addr} (h : nt H a) : H a ≠ none := by
  obtain ⟨o, e, _⟩ := h
  rw [e]
  exact nofun
theorem nt.of {H H' : Hp} {a : Addr} (h : nt H a) (e : H' a = H a) : nt H' a := by
  obtain ⟨o, q, n⟩ := h
  exact ⟨o, e.trans q, n⟩
/-- data as a tree; ref: a list or dict that may still be changed (by its number in the store) -/
inductive PV where
  | non | bl (b : Bool) | int (i : Int) | str (x : Str)
  | tup (xs : List PV) | lst (xs : List PV) | dct (kvs : List (Key × PV))
  | ref (k : Nat) | raw (v : V) | rol (xs : List PV) | wtp (xs : List PV) | err (n : String)
  | dd (kvs : List (NestedKey × PV))
instance : Inhabited PV := ⟨.non⟩
inductive MO where
  | lst (xs : List PV) | dct (kvs : List (Key × PV)) | dd (kvs : List (NestedKey × PV)) | dead
abbrev Sto := List MO
abbrev Lo := List (Option PV)
/-- the class of a name of the text -/
def clsK (K : PySem.W.Frag) (n : String) : Value := match PySem.W.nsIn K mainGlobals (Str.ofString n) with
  | some (some v) => v
  | _ => .none
/-- an error that was caught, kept at a -/
def ErrO (cls : Value) (a : Addr) : HO := .ext fun h => ∃ (o : Obj) (vs : Array Value), h.get? a = some o ∧ o.cls = cls ∧ o.dict = none ∧ o.data = .fields vs
mutual
/-- a key as a tree -/
def nkP : NestedKey → PV
  | .none => .non
  | .num i => .int i
  | .text x => .str x
  | .tup ks => .tup (nkPs ks)
def nkPs : List NestedKey → List PV
  | [] => []
  | k :: ks => nkP k :: nkPs ks
end
/-- a dict whose keys are tuples, at a: the keys, where they stand, the values -/
def DDO (es : List (NestedKey × Addr × V)) (a : Addr) : HO := .ext fun h => es.length ≤ sizeLine ∧ (a == sysModules) = false ∧ ∃ xs : List (NestedKey × Addr × Value), Paired (fun p q => p.1 = q.1 ∧ p.2.1 = q.2.1 ∧ RelV p.2.2 q.2.2) es xs ∧
  ∃ o esA ep, h.get? a = some o ∧ o.ExactDict ∧ o.data = .dict esA ep ∧ esA.toList = xs.map (fun x => (⟨Tb.hs x.1, .ref x.2.1, x.2.2⟩ : DictEntry)) ∧ (xs.map (·.1)).Nodup
/-- numbers to addresses; F: what is never changed again -/
structure G where
  n : Nat
  f : Nat → Addr
  F : Addr → Prop
  P : Addr → Prop
mutual
inductive RV (K : PySem.W.Frag) (g : G) (H : Hp) : PV → V → Prop
  | non : RV K g H .non .non
  | bl (b : Bool) : RV K g H (.bl b) (.bl b)
  | int (i : Int) : RV K g H (.int i) (.int i)
  | str (x : Str) : RV K g H (.str x) (.str x)
  | tup {a : Addr} {vs : List V} {xs : List PV} : SqN K H a vs → RVL K g H xs vs → RV K g H (.tup xs) (.ref a)
  | wtp {a : Addr} {vs : List V} {xs : List PV} : SqT K H a vs → RVL K g H xs vs → RV K g H (.wtp xs) (.ref a)
  | lst {a : Addr} {vs : List V} {xs : List PV} : g.F a → H a = some (.lst vs) → RVL K g H xs vs → RV K g H (.lst xs) (.ref a)
  | rol {a : Addr} {o : Obj} {vs : List V} {xs : List PV} : g.F a → H a = some (.frz o (.lst vs)) → RVL K g H xs vs → RV K g H (.rol xs) (.ref a)
  | rolK {a : Addr} {vs : List V} {xs : List PV} : (∀ H', SqL K H' a vs) → (∀ H', TyX K H' (.ref a) (.type "list")) → RVL K g H xs vs → RV K g H (.rol xs) (.ref a)
  | dct {a : Addr} {ws : List (Key × V)} {kvs : List (Key × PV)} : g.F a → H a = some (.dK ws) → RVK K g H kvs ws → RV K g H (.dct kvs) (.ref a)
  | ref {k : Nat} : k < g.n → RV K g H (.ref k) (.ref (g.f k))
  | raw (v : V) : RV K g H (.raw v) v
  | err {a : Addr} {n : String} : g.F a → H a = some (ErrO (clsK K n) a) → RV K g H (.err n) (.ref a)
  | dd {a : Addr} {es : List (NestedKey × Addr × V)} {kvs : List (NestedKey × PV)} : g.F a → H a = some (DDO es a) → RVD K g H kvs es → RV K g H (.dd kvs) (.ref a)
  | ddf {a : Addr} {o : Obj} {es : List (NestedKey × Addr × V)} {kvs : List (NestedKey × PV)} : g.F a → H a = some (.frz o (DDO es a)) → RVD K g H kvs es → RV K g H (.dd kvs) (.ref a)
inductive RVL (K : PySem.W.Frag) (g : G) (H : Hp) : List PV → List V → Prop
  | nil : RVL K g H [] []
  | cons {x : PV} {xs : List PV} {v : V} {vs : List V} : RV K g H x v → RVL K g H xs vs → RVL K g H (x :: xs) (v :: vs)
inductive RVK (K : PySem.W.Frag) (g : G) (H : Hp) : List (Key × PV) → List (Key × V) → Prop
  | nil : RVK K g H [] []
  | cons {k : Key} {x : PV} {xs : List (Key × PV)} {v : V} {vs : List (Key × V)} : RV K g H x v → RVK K g H xs vs → RVK K g H ((k, x) :: xs) ((k, v) :: vs)
inductive RVD (K : PySem.W.Frag) (g : G) (H : Hp) : List (NestedKey × PV) → List (NestedKey × Addr × V) → Prop
  | nil : RVD K g H [] []
  | cons {k : NestedKey} {b : Addr} {x : PV} {xs : List (NestedKey × PV)} {v : V} {vs : List (NestedKey × Addr × V)} : RV K g H (nkP k) (.ref b) → k.depth ≤ 8 → RV K g H x v → RVD K g H xs vs → RVD K g H ((k, x) :: xs) ((k, b, v) :: vs)
end
/-- a tuple, known or not -/
inductive TupO : HO → Prop
  | w (xs : List V) : TupO (.tup xs)
  | k (o : Obj) (xs : List V) : TupO (.frz o (.tup xs))
/-- the world goes on: what was known stays known (the part that values need) -/
structure ExtW (g : G) (H : Hp) (g' : G) (H' : Hp) : Prop where
  n : g.n ≤ g'.n
  f : ∀ k, k < g.n → g'.f k = g.f k
  F : ∀ a, g.F a → g'.F a ∧ H' a = H a
  t : ∀ a u, TupO u → H a = some u → H' a = some u
/-- .. and what is guarded -/
structure Ext (g : G) (H : Hp) (g' : G) (H' : Hp) : Prop extends ExtW g H g' H' where
  P : ∀ a, g.P a → g'.P a ∧ H' a = H a
theorem Ext.refl (g : G) (H : Hp) : Ext g H g H := ⟨⟨Nat.le_refl _, fun _ _ => rfl, fun _ h => ⟨h, rfl⟩, fun _ _ _ h => h⟩, fun _ h => ⟨h, rfl⟩⟩
theorem ExtW.trans {g g1 g2 : G} {H H1 H2 : Hp} (a : ExtW g H g1 H1) (b : ExtW g1 H1 g2 H2) : ExtW g H g2 H2 :=
  ⟨Nat.le_trans a.n b.n, fun k h => (b.f k (Nat.lt_of_lt_of_le h a.n)).trans (a.f k h), fun x h => ⟨(b.F x (a.F x h).1).1, (b.F x (a.F x h).1).2.trans (a.F x h).2⟩, fun x u k h => b.t x u k (a.t x u k h)⟩
theorem Ext.trans {g g1 g2 : G} {H H1 H2 : Hp} (a : Ext g H g1 H1) (b : Ext g1 H1 g2 H2) : Ext g H g2 H2 :=
  ⟨a.toExtW.trans b.toExtW, fun x h => ⟨(b.P x (a.P x h).1).1, (b.P x (a.P x h).1).2.trans (a.P x h).2⟩⟩
theorem ExtW.seqT {K : PySem.W.Frag} {g g' : G} {H H' : Hp} (e : ExtW g H g' H') {a : Addr} {xs : List V} (h : SqT K H a xs) : SqT K H' a xs :=
  h.elim (fun z => .inl (z.elim (fun q => .inl (e.t _ _ (.w _) q)) fun ⟨o, q⟩ => .inr ⟨o, e.t _ _ (.k _ _) q⟩)) .inr
theorem ExtW.seqN {K : PySem.W.Frag} {g g' : G} {H H' : Hp} (e : ExtW g H g' H') {a : Addr} {xs : List V} (h : SqN K H a xs) : SqN K H' a xs :=
  h.elim (fun ⟨o, d, q⟩ => .inl ⟨o, d, e.t _ _ (.k _ _) q⟩) .inr
mutual
theorem RV.monoW {K : PySem.W.Frag} {g g' : G} {H H' : Hp} (e : ExtW g H g' H') : ∀ {x : PV} {v : V}, RV K g H x v → RV K g' H' x v
  | _, _, .non => .non
  | _, _, .bl b => .bl b
  | _, _, .int i => .int i
  | _, _, .str x => .str x
  | _, _, .tup h l => .tup (e.seqN h) (RVL.monoW e l)
  | _, _, .wtp h l => .wtp (e.seqT h) (RVL.monoW e l)
  | _, _, .lst a r l => .lst (e.F _ a).1 ((e.F _ a).2.trans r) (RVL.monoW e l)
  | _, _, .rol a r l => .rol (e.F _ a).1 ((e.F _ a).2.trans r) (RVL.monoW e l)
  | _, _, .rolK h h2 l => .rolK h h2 (RVL.monoW e l)
  | _, _, .dct a r l => .dct (e.F _ a).1 ((e.F _ a).2.trans r) (RVK.monoW e l)
  | _, _, .ref (k := k) h => by
    rw [← e.f k h]
    exact .ref (Nat.lt_of_lt_of_le h e.n)
  | _, _, .raw v => .raw v
  | _, _, .err a r => .err (e.F _ a).1 ((e.F _ a).2.trans r)
  | _, _, .dd a r l => .dd (e.F _ a).1 ((e.F _ a).2.trans r) (RVD.monoW e l)
  | _, _, .ddf a r l => .ddf (e.F _ a).1 ((e.F _ a).2.trans r) (RVD.monoW e l)
theorem RVL.monoW {K : PySem.W.Frag} {g g' : G} {H H' : Hp} (e : ExtW g H g' H') : ∀ {xs : List PV} {vs : List V}, RVL K g H xs vs → RVL K g' H' xs vs
  | _, _, .nil => .nil
  | _, _, .cons h l => .cons (RV.monoW e h) (RVL.monoW e l)
theorem RVK.monoW {K : PySem.W.Frag} {g g' : G} {H H' : Hp} (e : ExtW g H g' H') : ∀ {xs : List (Key × PV)} {vs : List (Key × V)}, RVK K g H xs vs → RVK K g' H' xs vs
  | _, _, .nil => .nil
  | _, _, .cons h l => .cons (RV.monoW e h) (RVK.monoW e l)
theorem RVD.monoW {K : PySem.W.Frag} {g g' : G} {H H' : Hp} (e : ExtW g H g' H') : ∀ {xs : List (NestedKey × PV)} {vs : List (NestedKey × Addr × V)}, RVD K g H xs vs → RVD K g' H' xs vs
  | _, _, .nil => .nil
  | _, _, .cons k d h l => .cons (RV.monoW e k) d (RV.monoW e h) (RVD.monoW e l)
end
section
variable {K : PySem.W.Frag} {g g' : G} {H H' : Hp}
theorem RV.mono (e : Ext g H g' H') {x : PV} {v : V} (h : RV K g H x v) : RV K g' H' x v := h.monoW e.toExtW
theorem RVL.mono (e : Ext g H g' H') {x : List PV} {v : List V} (h : RVL K g H x v) : RVL K g' H' x v := h.monoW e.toExtW
theorem RVK.mono (e : Ext g H g' H') {x : List (Key × PV)} {v : List (Key × V)} (h : RVK K g H x v) : RVK K g' H' x v := h.monoW e.toExtW
theorem RVD.mono (e : Ext g H g' H') {x : List (NestedKey × PV)} {v : List (NestedKey × Addr × V)} (h : RVD K g H x v) : RVD K g' H' x v := h.monoW e.toExtW
end
section
variable {K : PySem.W.Frag} {g : G} {H : Hp}
theorem RVL.length : ∀ {xs : List PV} {vs : List V}, RVL K g H xs vs → xs.length = vs.length
  | _, _, .nil => rfl
  | _, _, .cons _ l => by simp [l.length]
theorem RVL.get : ∀ {xs : List PV} {vs : List V} {i : Nat} {x : PV}, RVL K g H xs vs → xs[i]? = some x → ∃ v, vs[i]? = some v ∧ RV K g H x v
  | _, _, _, _, .nil, e => by simp at e
  | _, _, 0, _, .cons r _, e => by simp at e; subst e; exact ⟨_, rfl, r⟩
  | _, _, i + 1, x, .cons _ l, e => by simpa using l.get (i := i) (x := x) (by simpa using e)
theorem RVL.append : ∀ {xs ys : List PV} {vs ws : List V}, RVL K g H xs vs → RVL K g H ys ws → RVL K g H (xs ++ ys) (vs ++ ws)
  | _, _, _, _, .nil, s => s
  | _, _, _, _, .cons r l, s => .cons r (l.append s)
theorem RVL.take : ∀ (n : Nat) {xs : List PV} {vs : List V}, RVL K g H xs vs → RVL K g H (xs.take n) (vs.take n)
  | 0, _, _, _ => by simpa using .nil
  | _ + 1, _, _, .nil => by simpa using .nil
  | n + 1, _, _, .cons r l => .cons r (l.take n)
theorem RVL.drop : ∀ (n : Nat) {xs : List PV} {vs : List V}, RVL K g H xs vs → RVL K g H (xs.drop n) (vs.drop n)
  | 0, _, _, l => l
  | _ + 1, _, _, .nil => .nil
  | n + 1, _, _, .cons _ l => l.drop n
theorem RVL.set {x : PV} {v : V} (r : RV K g H x v) : ∀ (i : Nat) {xs : List PV} {vs : List V}, RVL K g H xs vs → RVL K g H (xs.set i x) (vs.set i v)
  | _, _, _, .nil => .nil
  | 0, _, _, .cons _ l => .cons r l
  | i + 1, _, _, .cons q l => .cons q (l.set r i)
theorem RVL.rep {xs : List PV} {vs : List V} (l : RVL K g H xs vs) : ∀ k : Nat, RVL K g H (List.replicate k xs).flatten (List.replicate k vs).flatten
  | 0 => .nil
  | k + 1 => by simpa [List.replicate_succ] using l.append (l.rep k)
theorem RVL.strs : ∀ {ss : List Str} {vs : List V}, RVL K g H (ss.map PV.str) vs → vs = ss.map V.str
  | [], _, .nil => rfl
  | _ :: _, _, .cons r l => by cases r; rw [l.strs]; rfl
theorem RVL.bools : ∀ {ns : List Bool} {vs : List V}, RVL K g H (ns.map PV.bl) vs → vs = ns.map V.bl
  | [], _, .nil => rfl
  | _ :: _, _, .cons r l => by cases r; rw [l.bools]; rfl
theorem RVL.ofStrs : ∀ (ss : List Str), RVL K g H (ss.map PV.str) (ss.map V.str)
  | [] => .nil
  | x :: r => .cons (.str x) (RVL.ofStrs r)
theorem RVL.ofInts : ∀ (ss : List Int), RVL K g H (ss.map PV.int) (ss.map V.int)
  | [] => .nil
  | x :: r => .cons (.int x) (RVL.ofInts r)
end
/-- what stands in the store at a number -/
def MOk (K : PySem.W.Frag) (g : G) (H : Hp) (a : Addr) : MO → Prop
  | .lst xs => ∃ vs, H a = some (.lst vs) ∧ RVL K g H xs vs
  | .dct kvs => ∃ ws, H a = some (.dK ws) ∧ RVK K g H kvs ws
  | .dd kvs => ∃ ws, H a = some (DDO ws a) ∧ RVD K g H kvs ws
  | .dead => nt H a
def alive : MO → Bool
  | .dead => false
  | _ => true
/-- such a dict is written only where no tables of code are told -/
def okT : MO → Prop
  | .dd _ => Tb.tabs = []
  | _ => True
structure StOk (K : PySem.W.Frag) (g : G) (H : Hp) (st : Sto) : Prop where
  len : g.n = st.length
  inj : ∀ i j, i < g.n → j < g.n → g.f i = g.f j → i = j
  sep : ∀ (i : Nat) (o : MO), st[i]? = some o → alive o = true → ¬ g.F (g.f i)
  fz : ∀ a, g.F a → nt H a
  pr : ∀ a, g.P a → nt H a ∧ ¬ g.F a ∧ ∀ i, i < g.n → g.f i ≠ a
  at_ : ∀ (i : Nat) (o : MO), st[i]? = some o → MOk K g H (g.f i) o
  tb : LamX.Tabs Tb.tabs H
structure EnvOk (K : PySem.W.Frag) (g : G) (H : Hp) (env : Lo) (σ : L2.St) : Prop where
  len : σ.length = env.length
  at_ : ∀ (i : Nat) (x : PV), env[i]? = some (some x) → ∃ v, σ[i]? = some (some v) ∧ RV K g H x v
  lm : ∀ (i : Nat) (a : Addr), Lm.at_ i = some a → env[i]? = some none → σ[i]? = some (some (.ref a))
theorem EnvOk.mono {K : PySem.W.Frag} {g g' : G} {H H' : Hp} {env : Lo} {σ : L2.St} (e : Ext g H g' H') (h : EnvOk K g H env σ) : EnvOk K g' H' env σ :=
  ⟨h.len, fun i x q => let ⟨v, a, b⟩ := h.at_ i x q; ⟨v, a, b.mono e⟩, h.lm⟩
theorem EnvOk.set {K : PySem.W.Frag} {g : G} {H : Hp} {env : Lo} {σ : L2.St} (h : EnvOk K g H env σ) {x : PV} {v : V} (r : RV K g H x v) (i : Nat) : EnvOk K g H (env.set i (some x)) (σ.set i (some v)) := by
  refine ⟨by simp [h.len], fun j y q => ?_, fun j a q1 q2 => ?_⟩
  rotate_left
  · by_cases e : i = j
    · subst e
      by_cases hi : i < env.length
      · rw [List.getElem?_set_self hi] at q2; cases q2
      · rw [List.getElem?_eq_none (by simpa using hi)] at q2; cases q2
    · rw [List.getElem?_set_ne e] at q2
      rw [List.getElem?_set_ne e]
      exact h.lm j a q1 q2
  by_cases e : i = j
  · subst e
    have hi : i < env.length := by
      have := (List.getElem?_eq_some_iff.mp q).1
      simpa using this
    rw [List.getElem?_set_self hi] at q
    cases q
    exact ⟨v, List.getElem?_set_self (by rw [h.len]; exact hi), r⟩
  · rw [List.getElem?_set_ne e] at q
    rw [List.getElem?_set_ne e]
    exact h.at_ j y q
theorem MOk.there {K : PySem.W.Frag} {g : G} {H : Hp} {a : Addr} {o : MO} (h : MOk K g H a o) : H a ≠ none := by
  cases o with
  | lst xs => obtain ⟨vs, e, _⟩ := h; rw [e]; exact nofun
  | dct xs => obtain ⟨vs, e, _⟩ := h; rw [e]; exact nofun
  | dd xs => obtain ⟨vs, e, _⟩ := h; rw [e]; exact nofun
  | dead => exact h.ne
theorem MOk.nt {K : PySem.W.Frag} {g : G} {H : Hp} {a : Addr} {o : MO} (h : MOk K g H a o) : nt H a := by
  cases o with
  | lst xs => obtain ⟨vs, e, _⟩ := h; exact ⟨_, e, nofun⟩
  | dct xs => obtain ⟨vs, e, _⟩ := h; exact ⟨_, e, nofun⟩
  | dd xs => obtain ⟨vs, e, _⟩ := h; exact ⟨_, e, nofun⟩
  | dead => exact h
theorem StOk.lt {K : PySem.W.Frag} {g : G} {H : Hp} {st : Sto} (s : StOk K g H st) {i : Nat} {o : MO} (e : st[i]? = some o) : i < g.n := by
  rw [s.len]
  exact (List.getElem?_eq_some_iff.mp e).1
/-! ### results -/
/-- ok, an error (its class's name, its fields), or nothing is known -/
inductive Res (α : Type) where
  | ok (a : α) (st : Sto) | exc (n : String) (fs : List (Str × PV)) (st : Sto) | bad
def Res.bind {α β : Type} (r : Res α) (k : α → Sto → Res β) : Res β := match r with
  | .ok a st => k a st
  | .exc n fs st => .exc n fs st
  | .bad => .bad
@[simp] theorem Res.bind_ok {α β : Type} (a : α) (st : Sto) (k : α → Sto → Res β) : (Res.ok a st).bind k = k a st := rfl
@[simp] theorem Res.bind_exc {α β : Type} (n : String) (fs : List (Str × PV)) (st : Sto) (k : α → Sto → Res β) : (Res.exc n fs st).bind k = .exc n fs st := rfl
@[simp] theorem Res.bind_bad {α β : Type} (k : α → Sto → Res β) : (Res.bad : Res α).bind k = .bad := rfl
/-- how an error of the package lies: T gives its class's object -/
def RE (T : String → Value) (K : PySem.W.Frag) (g : G) (H : Hp) (n : String) (fs : List (Str × PV)) (c : Value) (d : Option Addr) : Prop :=
  c = T n ∧ match fs with
    | [] => d = none
    | fs => ∃ dd ws, d = some dd ∧ H dd = some (.xd ws) ∧ ws.map (·.1) = fs.map (·.1) ∧ RVL K g H (fs.map (·.2)) (ws.map (·.2))
section
variable {α β γ : Type}
/-- what a result asks of what is wanted -/
def okR (T : String → Value) (K : PySem.W.Frag) (R : G → Hp → α → β → Prop) (g : G) (H : Hp) (r : Res α) (Q : β → Hp → Prop) (E : XK) : Prop := match r with
  | .ok x st => ∀ g' H' v, Ext g H g' H' → StOk K g' H' st → R g' H' x v → Q v H'
  | .exc n fs st => ∀ g' H' c d, Ext g H g' H' → StOk K g' H' st → RE T K g' H' n fs c d → E c d H'
  | .bad => False
variable {T : String → Value} {K : PySem.W.Frag} {R : G → Hp → α → β → Prop} {g g' : G} {H H' : Hp} {r : Res α} {Q : β → Hp → Prop} {E : XK}
theorem okR.ext (h : okR T K R g H r Q E) (e : Ext g H g' H') : okR T K R g' H' r Q E := by
  cases r with
  | ok x st => exact fun g2 H2 v e2 => h g2 H2 v (e.trans e2)
  | exc n fs st => exact fun g2 H2 c d e2 => h g2 H2 c d (e.trans e2)
  | bad => exact h
theorem okR.imp {Q' : β → Hp → Prop} (h : okR T K R g H r Q E) (i : ∀ v H', Q v H' → Q' v H') : okR T K R g H r Q' E := by
  cases r with
  | ok x st => exact fun g2 H2 v e2 s2 r2 => i _ _ (h g2 H2 v e2 s2 r2)
  | exc n fs st => exact h
  | bad => exact h
/-- one step, then the rest -/
theorem okR.step {δ : Type} {R' : G → Hp → γ → δ → Prop} {r' : Res γ} {k : γ → Sto → Res α} (h : okR T K R g H (r'.bind k) Q E) :
    okR T K R' g H r' (fun v H1 => ∃ g1 st1 x, Ext g H g1 H1 ∧ StOk K g1 H1 st1 ∧ R' g1 H1 x v ∧ okR T K R g1 H1 (k x st1) Q E) E := by
  cases r' with
  | ok x st => exact fun g1 H1 v e1 s1 r1 => ⟨g1, st, x, e1, s1, r1, okR.ext h e1⟩
  | exc n fs st => exact h
  | bad => exact h
theorem okR.fin {x : α} {st : Sto} {v : β} (h : okR T K R g H (.ok x st) Q E) (s : StOk K g H st) (r : R g H x v) : Q v H := h g H v (Ext.refl _ _) s r
theorem okR.finE {x : α} {st : Sto} {v : β} (h : okR T K R g H (.ok x st) Q E) (e : Ext g H g' H') (s : StOk K g' H' st) (r : R g' H' x v) : Q v H' := h g' H' v e s r
end
end Sim
set_option Elab.async false
set_option linter.all false
set_option maxRecDepth 100000
set_option maxHeartbeats 4000000
namespace Sim
open PySem PySem.Spec PyProof.Rows L2
variable [Tb] [Lm]
/-! ### what happens to the heap -/
section
variable {K : PySem.W.Frag} {g : G} {H : Hp} {st : Sto} {p : Addr} {o : HO}
theorem tabs_up {H H' : Hp} (t : LamX.Tabs Tb.tabs H) (e : ∀ b o, H b = some o → (∀ xs, o ≠ .lst xs) → (∀ xs, o ≠ .dK xs) → H' b = some o) : LamX.Tabs Tb.tabs H' := fun p hp => by
  obtain ⟨ps, h1, h2, h3⟩ := t p hp
  refine ⟨ps, e _ _ h1 nofun nofun, h2, fun pos cv hc => ?_⟩
  obtain ⟨c, e1, e2⟩ := h3 pos cv hc
  exact ⟨c, e1, e _ _ e2 (fun xs z => by unfold LamX.CodeO at z; cases z) (fun xs z => by unfold LamX.CodeO at z; cases z)⟩
theorem tabs_new (s : StOk K g H st) (hp : H p = none) : LamX.Tabs Tb.tabs (upd H p o) := tabs_up s.tb fun b u h _ _ => by rw [upd_ne (ne_of_none h hp)]; exact h
theorem ext_new (s : StOk K g H st) (hp : H p = none) : Ext g H g (upd H p o) :=
  ⟨⟨Nat.le_refl _, fun _ _ => rfl, fun a h => ⟨h, upd_ne fun e => (s.fz a h).ne (e ▸ hp)⟩, fun a u _ h => by rw [upd_ne (ne_of_none h hp)]; exact h⟩, fun a h => ⟨h, upd_ne fun e => (s.pr a h).1.ne (e ▸ hp)⟩⟩
theorem MOk.keep {g' : G} {H' : Hp} {a : Addr} {m : MO} (h : MOk K g H a m) (e : Ext g H g' H') (k : H' a = H a) : MOk K g' H' a m := by
  cases m with
  | lst xs => obtain ⟨vs, q, r⟩ := h; exact ⟨vs, k.trans q, r.mono e⟩
  | dct xs => obtain ⟨vs, q, r⟩ := h; exact ⟨vs, k.trans q, r.mono e⟩
  | dd xs => obtain ⟨vs, q, r⟩ := h; exact ⟨vs, k.trans q, r.mono e⟩
  | dead => exact nt.of h k
theorem st_new (s : StOk K g H st) (hp : H p = none) : StOk K g (upd H p o) st := by
  have ne : ∀ {a}, H a ≠ none → a ≠ p := fun h e => h (e ▸ hp)
  refine ⟨s.len, s.inj, s.sep, fun a h => ?_, fun a h => ⟨?_, (s.pr a h).2⟩, fun i m e => ?_, tabs_new s hp⟩
  · exact (s.fz a h).of (upd_ne (ne (s.fz a h).ne))
  · exact (s.pr a h).1.of (upd_ne (ne (s.pr a h).1.ne))
  · exact (s.at_ i m e).keep (ext_new s hp) (upd_ne (ne (s.at_ i m e).there))
/-- a new thing that is never changed -/
def G.frz (g : G) (p : Addr) : G := { g with F := fun a => g.F a ∨ a = p }
theorem ext_frz (s : StOk K g H st) (hp : H p = none) : Ext g H (g.frz p) (upd H p o) :=
  ⟨⟨Nat.le_refl _, fun _ _ => rfl, fun a h => ⟨.inl h, upd_ne fun e => (s.fz a h).ne (e ▸ hp)⟩, fun a u _ h => by rw [upd_ne (ne_of_none h hp)]; exact h⟩, fun a h => ⟨h, upd_ne fun e => (s.pr a h).1.ne (e ▸ hp)⟩⟩
theorem st_frz (s : StOk K g H st) (hp : H p = none) (ho : ∀ ps, o ≠ HO.tbl ps := by intro ps z; cases z) : StOk K (g.frz p) (upd H p o) st := by
  have ne : ∀ {a}, H a ≠ none → a ≠ p := fun h e => h (e ▸ hp)
  refine ⟨s.len, s.inj, fun i m e al h => ?_, fun a h => ?_, fun a h => ⟨?_, fun z => ?_, (s.pr a h).2.2⟩, fun i m e => ?_, tabs_new s hp⟩
  · rcases h with h | h
    · exact s.sep i m e al h
    · exact ne (s.at_ i m e).there h
  · rcases h with h | h
    · exact (s.fz a h).of (upd_ne (ne (s.fz a h).ne))
    · subst h; exact ⟨_, upd_same, ho⟩
  · exact (s.pr a h).1.of (upd_ne (ne (s.pr a h).1.ne))
  · rcases z with z | z
    · exact (s.pr a h).2.1 z
    · exact ne (s.pr a h).1.ne z
  · exact (s.at_ i m e).keep (ext_frz s hp) (upd_ne (ne (s.at_ i m e).there))
/-- a new thing of the store -/
def G.put (g : G) (p : Addr) : G := { g with n := g.n + 1, f := fun k => if k = g.n then p else g.f k }
theorem G.put_old {g : G} {p : Addr} {k : Nat} (h : k < g.n) : (g.put p).f k = g.f k := if_neg (Nat.ne_of_lt h)
theorem G.put_new {g : G} {p : Addr} : (g.put p).f g.n = p := if_pos rfl
theorem ext_put (s : StOk K g H st) (hp : H p = none) : Ext g H (g.put p) (upd H p o) :=
  ⟨⟨Nat.le_succ _, fun k h => G.put_old h, fun a h => ⟨h, upd_ne fun e => (s.fz a h).ne (e ▸ hp)⟩, fun a u _ h => by rw [upd_ne (ne_of_none h hp)]; exact h⟩, fun a h => ⟨h, upd_ne fun e => (s.pr a h).1.ne (e ▸ hp)⟩⟩
theorem st_put {m : MO} (s : StOk K g H st) (hp : H p = none) (hm : MOk K (g.put p) (upd H p o) p m) : StOk K (g.put p) (upd H p o) (st ++ [m]) := by
  have ne : ∀ {a}, H a ≠ none → a ≠ p := fun h e => h (e ▸ hp)
  have ht : ∀ i, i < g.n → H (g.f i) ≠ none := fun i h => by
    have h' : i < st.length := by rw [← s.len]; exact h
    exact (s.at_ i st[i] (List.getElem?_eq_getElem h')).there
  have low : ∀ {i : Nat} {m' : MO}, (st ++ [m])[i]? = some m' → (i < g.n ∧ st[i]? = some m') ∨ (i = g.n ∧ m' = m) := fun {i m'} e => by
    by_cases h : i < st.length
    · rw [List.getElem?_append_left h] at e
      exact .inl ⟨by rw [s.len]; exact h, e⟩
    · rw [List.getElem?_append_right (by omega)] at e
      have h2 : i - st.length = 0 := by
        have := (List.getElem?_eq_some_iff.mp e).1
        simp at this
        omega
      rw [h2] at e
      exact .inr ⟨by rw [s.len]; omega, by simpa using e.symm⟩
  refine ⟨?_, fun i j hi hj e => ?_, fun i m' e al h => ?_, fun a h => ?_, fun a h => ⟨?_, (s.pr a h).2.1, fun i hi z => ?_⟩, fun i m' e => ?_, tabs_new s hp⟩
  · show g.n + 1 = _
    rw [List.length_append, s.len]; rfl
  · have hi' : i < g.n + 1 := hi
    have hj' : j < g.n + 1 := hj
    by_cases h1 : i < g.n
    · by_cases h2 : j < g.n
      · rw [G.put_old h1, G.put_old h2] at e; exact s.inj i j h1 h2 e
      · have : j = g.n := by omega
        subst this
        rw [G.put_old h1, G.put_new] at e
        exact absurd e (ne (ht i h1))
    · have : i = g.n := by omega
      subst this
      by_cases h2 : j < g.n
      · rw [G.put_old h2, G.put_new] at e
        exact absurd e.symm (ne (ht j h2))
      · omega
  · rcases low e with ⟨hi, e⟩ | ⟨hi, e⟩
    · rw [G.put_old hi] at h; exact s.sep i m' e al h
    · subst hi; rw [G.put_new] at h; exact (s.fz p h).ne hp
  · exact (s.fz a h).of (upd_ne (ne (s.fz a h).ne))
  · exact (s.pr a h).1.of (upd_ne (ne (s.pr a h).1.ne))
  · have hi' : i < g.n + 1 := hi
    by_cases h1 : i < g.n
    · rw [G.put_old h1] at z; exact (s.pr a h).2.2 i h1 z
    · have : i = g.n := by omega
      subst this
      rw [G.put_new] at z
      exact ne (s.pr a h).1.ne z.symm
  · rcases low e with ⟨hi, e2⟩ | ⟨hi, e2⟩
    · rw [G.put_old hi]; exact (s.at_ i m' e2).keep (ext_put s hp) (upd_ne (ne (ht i hi)))
    · subst hi; subst e2; rw [G.put_new]; exact hm
/-- a thing of the store is changed -/
theorem ext_write {k : Nat} {m : MO} (s : StOk K g H st) (e : st[k]? = some m) (al : alive m = true) : Ext g H g (upd H (g.f k) o) := by
  refine ⟨⟨Nat.le_refl _, fun _ _ => rfl, fun a h => ⟨h, upd_ne fun q => s.sep k m e al (q ▸ h)⟩, fun a u tu h => ?_⟩, fun a h => ⟨h, upd_ne fun q => (s.pr a h).2.2 k (s.lt e) q.symm⟩⟩
  have ne : a ≠ g.f k := fun q => by
    subst q
    have hm := s.at_ k m e
    cases m with
    | lst ys => obtain ⟨vs, q, _⟩ := hm; rw [q] at h; cases h; cases tu
    | dct ys => obtain ⟨vs, q, _⟩ := hm; rw [q] at h; cases h; cases tu
    | dd ys => obtain ⟨vs, q, _⟩ := hm; rw [q] at h; cases h; cases tu
    | dead => cases al
  rw [upd_ne ne]; exact h
theorem tabs_write {k : Nat} {m : MO} (s : StOk K g H st) (e : st[k]? = some m) (al : alive m = true) (ot : okT m := by trivial) : LamX.Tabs Tb.tabs (upd H (g.f k) o) := by
  by_cases hT : Tb.tabs = []
  · rw [hT]; exact fun p hp => nomatch hp
  refine tabs_up s.tb fun b u h n1 n2 => ?_
  have ne : b ≠ g.f k := fun q => by
    subst q
    have hm := s.at_ k m e
    cases m with
    | dd ys => exact hT ot
    | lst ys => obtain ⟨vs, q, _⟩ := hm; rw [q] at h; cases h; exact n1 _ rfl
    | dct ys => obtain ⟨vs, q, _⟩ := hm; rw [q] at h; cases h; exact n2 _ rfl
    | dead => cases al
  rw [upd_ne ne]; exact h
theorem st_write {k : Nat} {m m' : MO} (s : StOk K g H st) (e : st[k]? = some m) (al : alive m = true) (hm : MOk K g (upd H (g.f k) o) (g.f k) m') (ot : okT m := by trivial) : StOk K g (upd H (g.f k) o) (st.set k m') := by
  have x := ext_write (o := o) s e al
  have hk := s.lt e
  refine ⟨by rw [List.length_set]; exact s.len, s.inj, fun i m2 e2 al2 h => ?_, fun a h => ?_, fun a h => ⟨?_, (s.pr a h).2⟩, fun i m2 e2 => ?_, tabs_write s e al ot⟩
  · by_cases q : k = i
    · subst q; exact s.sep k m e al h
    · rw [List.getElem?_set_ne q] at e2; exact s.sep i m2 e2 al2 h
  · exact (s.fz a h).of (x.F a h).2
  · exact (s.pr a h).1.of (x.P a h).2
  · by_cases q : k = i
    · subst q
      rw [List.getElem?_set_self (by rw [← s.len]; exact hk)] at e2
      cases e2; exact hm
    · rw [List.getElem?_set_ne q] at e2
      have hi := s.lt e2
      exact (s.at_ i m2 e2).keep x (upd_ne fun z => q (s.inj i k hi hk z).symm)
end
/-! ### the mirrors and their readings -/
abbrev M := Lo → Sto → Res PV
abbrev MB := Lo → Sto → Res Bool
abbrev ML := Lo → Sto → Res (List PV)
inductive Out where
  | nx (env : Lo) (st : Sto) | rt (x : PV) (st : Sto) | bk (env : Lo) (st : Sto) | ct (env : Lo) (st : Sto)
  | exc (n : String) (fs : List (Str × PV)) (st : Sto) | bad
abbrev MS := Lo → Sto → Out
abbrev rV (K : PySem.W.Frag) : G → Hp → PV → V → Prop := fun g H x v => RV K g H x v
abbrev rB : G → Hp → Bool → Bool → Prop := fun _ _ b c => b = c
abbrev rL (K : PySem.W.Frag) : G → Hp → List PV → List V → Prop := fun g H x v => RVL K g H x v
section
variable (T : String → Value) (K : PySem.W.Frag) (E : XK)
def TV (m : M) : TE := fun σ H Q => ∃ g st env, StOk K g H st ∧ EnvOk K g H env σ ∧ okR T K (rV K) g H (m env st) Q E
def TB (m : MB) : TT := fun σ H Q => ∃ g st env, StOk K g H st ∧ EnvOk K g H env σ ∧ okR T K rB g H (m env st) Q E
def TL (m : ML) : TA := fun σ H Q => ∃ g st env, StOk K g H st ∧ EnvOk K g H env σ ∧ okR T K (rL K) g H (m env st) Q E
def okS (g : G) (H : Hp) (r : Out) (D : Ends) : Prop := match r with
  | .nx env st => ∀ g' H' σ', Ext g H g' H' → StOk K g' H' st → EnvOk K g' H' env σ' → D.nx σ' H'
  | .rt x st => ∀ g' H' v, Ext g H g' H' → StOk K g' H' st → RV K g' H' x v → D.rt v H'
  | .bk env st => ∀ g' H' σ', Ext g H g' H' → StOk K g' H' st → EnvOk K g' H' env σ' → D.bk σ' H'
  | .ct env st => ∀ g' H' σ', Ext g H g' H' → StOk K g' H' st → EnvOk K g' H' env σ' → D.ct σ' H'
  | .exc n fs st => ∀ g' H' c d, Ext g H g' H' → StOk K g' H' st → RE T K g' H' n fs c d → E c d H'
  | .bad => False
def TSt (m : MS) : TS := fun D σ H => ∃ g st env, StOk K g H st ∧ EnvOk K g H env σ ∧ okS T K E g H (m env st) D
end
section
variable {T : String → Value} {K : PySem.W.Frag} {E : XK}
theorem okS.ext {g g' : G} {H H' : Hp} {r : Out} {D : Ends} (h : okS T K E g H r D) (e : Ext g H g' H') : okS T K E g' H' r D := by
  cases r with
  | nx env st => exact fun g2 H2 v e2 => h g2 H2 v (e.trans e2)
  | rt env st => exact fun g2 H2 v e2 => h g2 H2 v (e.trans e2)
  | bk env st => exact fun g2 H2 v e2 => h g2 H2 v (e.trans e2)
  | ct env st => exact fun g2 H2 v e2 => h g2 H2 v (e.trans e2)
  | exc n fs st => exact fun g2 H2 c d e2 => h g2 H2 c d (e.trans e2)
  | bad => exact h
end
/-! ### the rules' weakening -/
section
variable {X : Cx}
theorem pe_imp {e : Expr} {t t' : TE} (h : PE X e t) (i : ∀ σ H Q, t' σ H Q → t σ H Q) : PE X e t' := ⟨fun pins s σ H Q I q => h.run pins s σ H Q I (i σ H Q q)⟩
theorem pt_imp {e : Expr} {t t' : TT} (h : PT X e t) (i : ∀ σ H Q, t' σ H Q → t σ H Q) : PT X e t' := ⟨fun pins s σ H Q I q => h.run pins s σ H Q I (i σ H Q q)⟩
theorem pw_imp {e : Expr} {t t' : TT} (h : PW X e t) (i : ∀ σ H Q, t' σ H Q → t σ H Q) : PW X e t' := ⟨fun wh pins s σ H Q I q => h.run wh pins s σ H Q I (i σ H Q q)⟩
theorem pa_imp {e : List Expr} {t t' : TA} (h : PA X e t) (i : ∀ σ H Q, t' σ H Q → t σ H Q) : PA X e t' := ⟨fun pos pins s σ H Q I q => h.run pos pins s σ H Q I (i σ H Q q)⟩
theorem ps_imp {e : Stmt} {t t' : TS} (h : PS X e t) (i : ∀ D σ H, t' D σ H → t D σ H) : PS X e t' := ⟨fun pins s σ H D I q => h.run pins s σ H D I (i D σ H q)⟩
theorem pss_imp {e : List Stmt} {t t' : TS} (h : PSs X e t) (i : ∀ D σ H, t' D σ H → t D σ H) : PSs X e t' := ⟨fun pins s σ H D I q => h.run pins s σ H D I (i D σ H q)⟩
end
/-- from a reading to its next: what the step lemma leaves, unpacked -/
theorem tv_of {T : String → Value} {K : PySem.W.Frag} {E : XK} {α β : Type} {R : G → Hp → α → β → Prop} {g : G} {H : Hp} {σ : L2.St} {env : Lo} {st : Sto} {m : M} {k : PV → Sto → Res α} {Q : β → Hp → Prop} {Q' : VK}
    (s : StOk K g H st) (e : EnvOk K g H env σ) (h : okR T K R g H ((m env st).bind k) Q E)
    (next : ∀ g1 H1 st1 x v, Ext g H g1 H1 → StOk K g1 H1 st1 → EnvOk K g1 H1 env σ → RV K g1 H1 x v → okR T K R g1 H1 (k x st1) Q E → Q' v H1) : TV T K E m σ H Q' :=
  ⟨g, st, env, s, e, h.step.imp fun v H1 ⟨g1, st1, x, e1, s1, r1, h1⟩ => next g1 H1 st1 x v e1 s1 (e.mono e1) r1 h1⟩
theorem tb_of {T : String → Value} {K : PySem.W.Frag} {E : XK} {α β : Type} {R : G → Hp → α → β → Prop} {g : G} {H : Hp} {σ : L2.St} {env : Lo} {st : Sto} {m : MB} {k : Bool → Sto → Res α} {Q : β → Hp → Prop} {Q' : Bool → Hp → Prop}
    (s : StOk K g H st) (e : EnvOk K g H env σ) (h : okR T K R g H ((m env st).bind k) Q E)
    (next : ∀ g1 H1 st1 b, Ext g H g1 H1 → StOk K g1 H1 st1 → EnvOk K g1 H1 env σ → okR T K R g1 H1 (k b st1) Q E → Q' b H1) : TB T K E m σ H Q' :=
  ⟨g, st, env, s, e, h.step.imp fun v H1 ⟨g1, st1, x, e1, s1, r1, h1⟩ => by
    subst r1
    exact next g1 H1 st1 x e1 s1 (e.mono e1) h1⟩
theorem tl_of {T : String → Value} {K : PySem.W.Frag} {E : XK} {α β : Type} {R : G → Hp → α → β → Prop} {g : G} {H : Hp} {σ : L2.St} {env : Lo} {st : Sto} {m : ML} {k : List PV → Sto → Res α} {Q : β → Hp → Prop} {Q' : List V → Hp → Prop}
    (s : StOk K g H st) (e : EnvOk K g H env σ) (h : okR T K R g H ((m env st).bind k) Q E)
    (next : ∀ g1 H1 st1 x v, Ext g H g1 H1 → StOk K g1 H1 st1 → EnvOk K g1 H1 env σ → RVL K g1 H1 x v → okR T K R g1 H1 (k x st1) Q E → Q' v H1) : TL T K E m σ H Q' :=
  ⟨g, st, env, s, e, h.step.imp fun v H1 ⟨g1, st1, x, e1, s1, r1, h1⟩ => next g1 H1 st1 x v e1 s1 (e.mono e1) r1 h1⟩
end Sim
set_option Elab.async false
set_option linter.all false
set_option maxRecDepth 100000
set_option maxHeartbeats 4000000
namespace Sim
open PySem PySem.Spec PyProof.Rows L2
variable [Tb] [Lm]
/-! ### looking into the store -/
def asL (st : Sto) : PV → Option (List PV)
  | .lst xs => some xs
  | .rol xs => some xs
  | .ref k => match st[k]? with
    | some (.lst xs) => some xs
    | _ => none
  | _ => none
/-- a list that is no read-only one -/
def asM (st : Sto) : PV → Option (List PV)
  | .lst xs => some xs
  | .ref k => match st[k]? with
    | some (.lst xs) => some xs
    | _ => none
  | _ => none
def asT : PV → Option (List PV)
  | .tup xs => some xs
  | _ => none
def asD (st : Sto) : PV → Option (List (Key × PV))
  | .dct xs => some xs
  | .ref k => match st[k]? with
    | some (.dct xs) => some xs
    | _ => none
  | _ => none
/-- a list or a tuple -/
def asS (st : Sto) (x : PV) : Option (List PV) := match x with
  | .tup xs => some xs
  | x => asL st x
/-- the name of the type -/
def tyName (st : Sto) : PV → Option String
  | .non => some "NoneType"
  | .bl _ => some "bool"
  | .int _ => some "int"
  | .str _ => some "str"
  | .tup _ => some "tuple"
  | .lst _ => some "list"
  | .rol _ => some "list"
  | .dct _ => some "dict"
  | .ref k => match st[k]? with
    | some (.lst _) => some "list"
    | some (.dct _) => some "dict"
    | _ => none
  | .raw _ => none
  | .wtp _ => none
  | .err _ => none
  | .dd _ => none
section
variable {K : PySem.W.Frag} {g : G} {H : Hp} {st : Sto}
theorem asM_ok (s : StOk K g H st) {x : PV} {v : V} (r : RV K g H x v) {xs : List PV} (e : asM st x = some xs) : ∃ a vs, v = .ref a ∧ H a = some (.lst vs) ∧ RVL K g H xs vs := by
  cases r with
  | lst f h l => cases e; exact ⟨_, _, rfl, h, l⟩
  | ref hk =>
    rename_i k
    simp only [asM] at e
    split at e
    · rename_i ys q
      cases e
      obtain ⟨vs, h, l⟩ := s.at_ k _ q
      exact ⟨_, _, rfl, h, l⟩
    · cases e
  | _ => cases e
theorem asL_ok (s : StOk K g H st) {x : PV} {v : V} (r : RV K g H x v) {xs : List PV} (e : asL st x = some xs) : ∃ a vs, v = .ref a ∧ SqL K H a vs ∧ RVL K g H xs vs := by
  cases r with
  | lst f h l => cases e; exact ⟨_, _, rfl, .of h, l⟩
  | rol f h l => cases e; exact ⟨_, _, rfl, .inl (.inr ⟨_, h⟩), l⟩
  | rolK h h2 l => cases e; exact ⟨_, _, rfl, h H, l⟩
  | ref hk =>
    rename_i k
    simp only [asL] at e
    split at e
    · rename_i ys q
      cases e
      obtain ⟨vs, h, l⟩ := s.at_ k _ q
      exact ⟨_, _, rfl, .of h, l⟩
    · cases e
  | _ => cases e
theorem asT_ok {x : PV} {v : V} (r : RV K g H x v) {xs : List PV} (e : asT x = some xs) : ∃ a vs, v = .ref a ∧ SqN K H a vs ∧ RVL K g H xs vs := by
  cases r with
  | tup h l => cases e; exact ⟨_, _, rfl, h, l⟩
  | _ => cases e
theorem asS_ok (s : StOk K g H st) {x : PV} {v : V} (r : RV K g H x v) {xs : List PV} (e : asS st x = some xs) : ∃ a vs, v = .ref a ∧ (SqL K H a vs ∨ SqT K H a vs) ∧ RVL K g H xs vs := by
  cases r with
  | tup h l => cases e; exact ⟨_, _, rfl, .inr h.t, l⟩
  | lst f h l => obtain ⟨a, vs, h1, h2, h3⟩ := asL_ok s (.lst f h l) e; exact ⟨a, vs, h1, .inl h2, h3⟩
  | rol f h l => obtain ⟨a, vs, h1, h2, h3⟩ := asL_ok s (.rol f h l) e; exact ⟨a, vs, h1, .inl h2, h3⟩
  | rolK h h' l => obtain ⟨a, vs, h1, h2, h3⟩ := asL_ok s (.rolK h h' l) e; exact ⟨a, vs, h1, .inl h2, h3⟩
  | ref hk => obtain ⟨a, vs, h1, h2, h3⟩ := asL_ok s (.ref hk) e; exact ⟨a, vs, h1, .inl h2, h3⟩
  | _ => cases e
theorem asD_ok (s : StOk K g H st) {x : PV} {v : V} (r : RV K g H x v) {xs : List (Key × PV)} (e : asD st x = some xs) : ∃ a vs, v = .ref a ∧ H a = some (.dK vs) ∧ RVK K g H xs vs := by
  cases r with
  | dct f h l => cases e; exact ⟨_, _, rfl, h, l⟩
  | ref hk =>
    rename_i k
    simp only [asD] at e
    split at e
    · rename_i ys q
      cases e
      obtain ⟨vs, h, l⟩ := s.at_ k _ q
      exact ⟨_, _, rfl, h, l⟩
    · cases e
  | _ => cases e
theorem ty_T {a : Addr} {vs : List V} (h : SqT K H a vs) : TyX K H (.ref a) (.type "tuple") := by
  rcases h with (h | ⟨o, h⟩) | ⟨o, its, n, h1, h2, _⟩
  · exact .base (.tup h)
  · exact .fTuple h
  · exact .kTuple h1 h2
theorem tyName_ok (s : StOk K g H st) {x : PV} {v : V} (r : RV K g H x v) {n : String} (e : tyName st x = some n) : TyX K H v (.type n) := by
  cases r with
  | non => cases e; exact .base .non
  | bl b => cases e; exact .base (.bl b)
  | int i => cases e; exact .base (.int i)
  | str x => cases e; exact .base (.str x)
  | tup h l => cases e; exact ty_T h.t
  | wtp h l => cases e
  | lst f h l => cases e; exact .base (.lst h)
  | rol f h l => cases e; exact .base (.frz h)
  | rolK h h2 l => cases e; exact h2 H
  | dct f h l => cases e; exact .base (.dK h)
  | raw v => cases e
  | err f h => cases e
  | dd f h l => cases e
  | ddf f h l => cases e
  | ref hk =>
    rename_i k
    simp only [tyName] at e
    split at e
    · rename_i ys q
      cases e
      obtain ⟨vs, h, l⟩ := s.at_ k _ q
      exact .base (.lst h)
    · rename_i ys q
      cases e
      obtain ⟨vs, h, l⟩ := s.at_ k _ q
      exact .base (.dK h)
    · cases e
end
/-! ### data -/
mutual
/-- as data without dicts -/
def toD : PV → Option PyData
  | .non => some .none
  | .bl b => some (.bool b)
  | .int i => some (.int i)
  | .str x => some (.str x)
  | .tup xs => (toDs xs).map .tuple
  | .lst xs => (toDs xs).map .list
  | .rol xs => (toDs xs).map .list
  | .dct _ => none
  | .ref _ => none
  | .raw _ => none
  | .wtp _ => none
  | .err _ => none
  | .dd _ => none
def toDs : List PV → Option (List PyData)
  | [] => some []
  | x :: xs => match toD x, toDs xs with
    | some d, some ds => some (d :: ds)
    | _, _ => none
end
/-- .. a list of the store at the top -/
def toDS (st : Sto) (x : PV) : Option PyData := match x with
  | .ref k => match st[k]? with
    | some (.lst xs) => (toDs xs).map .list
    | _ => none
  | x => toD x
section
variable {K : PySem.W.Frag} {g : G} {H : Hp} {st : Sto}
mutual
theorem toD_ok : ∀ {x : PV} {v : V} {d : PyData}, RV K g H x v → toD x = some d → Dp K H v d
  | .non, _, _, h, e => by cases h; cases e; exact .non
  | .bl b, _, _, h, e => by cases h; cases e; exact .bl b
  | .int i, _, _, h, e => by cases h; cases e; exact .int i
  | .str x, _, _, h, e => by cases h; cases e; exact .str x
  | .tup xs, _, _, h, e => by
    cases h with
    | tup h l =>
      simp only [toD, Option.map_eq_some_iff] at e
      obtain ⟨ds, e1, rfl⟩ := e
      exact .tup h.t (toDs_ok l e1)
  | .lst xs, _, _, h, e => by
    cases h with
    | lst f h l =>
      simp only [toD, Option.map_eq_some_iff] at e
      obtain ⟨ds, e1, rfl⟩ := e
      exact .lst (.of h) (toDs_ok l e1)
  | .rol xs, _, _, h, e => by
    cases h with
    | rol f h l =>
      simp only [toD, Option.map_eq_some_iff] at e
      obtain ⟨ds, e1, rfl⟩ := e
      exact .lst (.inl (.inr ⟨_, h⟩)) (toDs_ok l e1)
    | rolK h h2 l =>
      simp only [toD, Option.map_eq_some_iff] at e
      obtain ⟨ds, e1, rfl⟩ := e
      exact .lst (h H) (toDs_ok l e1)
theorem toDs_ok : ∀ {xs : List PV} {vs : List V} {ds : List PyData}, RVL K g H xs vs → toDs xs = some ds → DpAll K H vs ds
  | [], _, _, h, e => by cases h; cases e; exact .nil
  | x :: xs, _, _, h, e => by
    cases h with
    | cons h l =>
      simp only [toDs] at e
      split at e
      · rename_i d ds e1 e2
        cases e
        exact .cons (toD_ok h e1) (toDs_ok l e2)
      · cases e
end
theorem toDS_ok (s : StOk K g H st) {x : PV} {v : V} {d : PyData} (r : RV K g H x v) (e : toDS st x = some d) : Dp K H v d := by
  cases r with
  | ref hk =>
    rename_i k
    simp only [toDS] at e
    split at e
    · rename_i xs q
      simp only [Option.map_eq_some_iff] at e
      obtain ⟨ds, e1, rfl⟩ := e
      obtain ⟨vs, h, l⟩ := s.at_ k _ q
      exact .lst (.of h) (toDs_ok l e1)
    · cases e
  | non => exact toD_ok (K := K) (g := g) (H := H) .non e
  | bl b => exact toD_ok (K := K) (g := g) (H := H) (.bl b) e
  | int b => exact toD_ok (K := K) (g := g) (H := H) (.int b) e
  | str b => exact toD_ok (K := K) (g := g) (H := H) (.str b) e
  | tup h l => exact toD_ok (.tup h l) e
  | lst f h l => exact toD_ok (.lst f h l) e
  | rol f h l => exact toD_ok (.rol f h l) e
  | rolK f h l => exact toD_ok (.rolK f h l) e
  | dct f h l => cases e
  | raw v => cases e
  | wtp h l => cases e
  | err f h => cases e
  | dd f h l => cases e
  | ddf f h l => cases e
end
/-- .. lists of the store, deeper down -/
def mapD {α β : Type} (f : α → Option β) : List α → Option (List β)
  | [] => some []
  | x :: xs => match f x, mapD f xs with
    | some y, some ys => some (y :: ys)
    | _, _ => none
def toDF (st : Sto) : Nat → PV → Option PyData
  | 0, x => toDS st x
  | n + 1, x => match x with
    | .tup xs => (mapD (toDF st n) xs).map .tuple
    | .lst xs => (mapD (toDF st n) xs).map .list
    | x => toDS st x
section
variable {K : PySem.W.Frag} {g : G} {H : Hp} {st : Sto}
theorem mapD_ok {f : PV → Option PyData} (hf : ∀ {x : PV} {v : V} {d : PyData}, RV K g H x v → f x = some d → Dp K H v d) : ∀ {xs : List PV} {vs : List V} {ds : List PyData}, RVL K g H xs vs → mapD f xs = some ds → DpAll K H vs ds
  | _, _, _, .nil, e => by cases e; exact .nil
  | _, _, _, .cons r l, e => by
    simp only [mapD] at e
    split at e
    · rename_i d ds e1 e2
      cases e
      exact .cons (hf r e1) (mapD_ok hf l e2)
    · cases e
theorem toDF_ok (s : StOk K g H st) : ∀ (n : Nat) {x : PV} {v : V} {d : PyData}, RV K g H x v → toDF st n x = some d → Dp K H v d
  | 0, x, v, d, r, e => toDS_ok s r e
  | n + 1, x, v, d, r, e => by
    unfold toDF at e
    split at e
    · obtain ⟨ds, e1, rfl⟩ := Option.map_eq_some_iff.mp e
      cases r with
      | tup h l => exact .tup h.t (mapD_ok (fun r e => toDF_ok s n r e) l e1)
    · obtain ⟨ds, e1, rfl⟩ := Option.map_eq_some_iff.mp e
      cases r with
      | lst f h l => exact .lst (.of h) (mapD_ok (fun r e => toDF_ok s n r e) l e1)
    · exact toDS_ok s r e
end
/-! ### what an operator does, by trees -/
abbrev Se2 := PV → PV → Sto → Res PV
abbrev Se1 := PV → Sto → Res PV
abbrev SeN := List PV → Sto → Res PV
section
variable (T : String → Value) (K : PySem.W.Frag) (E : XK)
def S2 (r : R2) (f : Se2) : Prop := ∀ g H st x y v u Q, StOk K g H st → RV K g H x v → RV K g H y u → okR T K (rV K) g H (f x y st) Q E → r v u H Q
def S1 (r : V → Hp → VK → Prop) (f : Se1) : Prop := ∀ g H st x v Q, StOk K g H st → RV K g H x v → okR T K (rV K) g H (f x st) Q E → r v H Q
def SN (r : List V → Hp → VK → Prop) (f : SeN) : Prop := ∀ g H st xs vs Q, StOk K g H st → RVL K g H xs vs → okR T K (rV K) g H (f xs st) Q E → r vs H Q
end
section
variable {T : String → Value} {K : PySem.W.Frag} {E : XK} {g : G} {H : Hp} {st : Sto} {Q : VK}
/-- a new tuple -/
theorem giveT {xs : List PV} {vs : List V} (s : StOk K g H st) (r : RVL K g H xs vs) (h : okR T K (rV K) g H (.ok (.tup xs) st) Q E) : NewT vs H Q := fun p o od hp =>
  okR.finE h (ext_new s hp) (st_new s hp) (.tup (.inl ⟨o, od, upd_same⟩) (r.mono (ext_new s hp)))
/-- a new list of the program -/
theorem giveF {xs : List PV} {vs : List V} (s : StOk K g H st) (r : RVL K g H xs vs) (h : okR T K (rV K) g H (.ok (.lst xs) st) Q E) : ∀ p, H p = none → Q (.ref p) (upd H p (.lst vs)) := fun p hp =>
  okR.finE h (ext_frz s hp) (st_frz s hp) (.lst (.inr rfl) upd_same (r.mono (ext_frz s hp)))
/-- a new list of the store -/
theorem giveM {xs : List PV} {vs : List V} (s : StOk K g H st) (r : RVL K g H xs vs) (h : okR T K (rV K) g H (.ok (.ref st.length) (st ++ [.lst xs])) Q E) : ∀ p, H p = none → Q (.ref p) (upd H p (.lst vs)) := fun p hp => by
  have x : Ext g H (g.put p) (upd H p (.lst vs)) := ext_put s hp
  refine okR.finE h x (st_put s hp ⟨vs, upd_same, r.mono x⟩) ?_
  have e : RV K (g.put p) (upd H p (.lst vs)) (.ref g.n) (.ref ((g.put p).f g.n)) := .ref (Nat.lt_succ_self g.n)
  rw [G.put_new, s.len] at e
  exact e
end
end Sim
set_option Elab.async false
set_option linter.all false
set_option maxRecDepth 100000
set_option maxHeartbeats 4000000
namespace Sim
open PySem PySem.Spec PyProof.Rows L2
variable [Tb] [Lm]
/-! ### expressions -/
def mVar (i : Nat) : M := fun env st => match env[i]? with
  | some (some x) => .ok x st
  | _ => .bad
def mC (x : PV) : M := fun _ st => .ok x st
def mBin (f : Se2) (a b : M) : M := fun env st => (a env st).bind fun x s1 => (b env s1).bind fun y s2 => f x y s2
def mUn (f : Se1) (a : M) : M := fun env st => (a env st).bind fun x s1 => f x s1
def mNil : ML := fun _ st => .ok [] st
def mCons (a : M) (r : ML) : ML := fun env st => (a env st).bind fun x s1 => (r env s1).bind fun xs s2 => .ok (x :: xs) s2
def mApp (f : SeN) (as : ML) : M := fun env st => (as env st).bind fun xs s1 => f xs s1
def fitL {α : Type} (xs : List α) : Bool := decide (xs.length ≤ 16777216)
theorem fitL_ok {α : Type} {xs : List α} (h : fitL xs = true) : xs.length ≤ sizeLine := by
  rw [sizeLine_eq]
  exact of_decide_eq_true h
def sTup : SeN := fun xs st => if fitL xs then .ok (.tup xs) st else .bad
/-- a list that is never changed; one of the store -/
def sLstF : SeN := fun xs st => if fitL xs then .ok (.lst xs) st else .bad
def sLstM : SeN := fun xs st => if fitL xs then .ok (.ref st.length) (st ++ [.lst xs]) else .bad
def mAnd (a b : M) : M := fun env st => (a env st).bind fun x s1 => match x with
  | .bl true => b env s1
  | .bl false => .ok (.bl false) s1
  | _ => .bad
def mOr (a b : M) : M := fun env st => (a env st).bind fun x s1 => match x with
  | .bl true => .ok (.bl true) s1
  | .bl false => b env s1
  | _ => .bad
def mNot (a : M) : M := fun env st => (a env st).bind fun x s1 => match x with
  | .bl b => .ok (.bl (!b)) s1
  | _ => .bad
def mIf (c : MB) (a b : M) : M := fun env st => (c env st).bind fun x s1 => if x = true then a env s1 else b env s1
def mChain (f f' : Se2) (a b c : M) : M := fun env st => (a env st).bind fun x s1 => (b env s1).bind fun y s2 => (f x y s2).bind fun z s3 => match z with
  | .bl true => (c env s3).bind fun w s4 => f' y w s4
  | .bl false => .ok (.bl false) s3
  | _ => .bad
/-! tests -/
def bVal (a : M) : MB := fun env st => (a env st).bind fun x s1 => match x with
  | .bl b => .ok b s1
  | _ => .bad
def bNot (a : MB) : MB := fun env st => (a env st).bind fun b s1 => .ok (!b) s1
def bAnd (a b : MB) : MB := fun env st => (a env st).bind fun x s1 => if x = true then b env s1 else .ok false s1
def bOr (a b : MB) : MB := fun env st => (a env st).bind fun x s1 => if x = true then .ok true s1 else b env s1
section
variable {X : Cx} {T : String → Value} {E : XK} {a b c : Expr} {es rest : List Expr} {ma mb mc : M} {ms : ML} {ba bb : MB} {pos : Pos}
abbrev EX (X : Cx) (T : String → Value) (E : XK) (e : Expr) (m : M) : Prop := PE X e (TV T X.K E m)
abbrev TX (X : Cx) (T : String → Value) (E : XK) (e : Expr) (m : MB) : Prop := PT X e (TB T X.K E m)
abbrev WX (X : Cx) (T : String → Value) (E : XK) (e : Expr) (m : MB) : Prop := PW X e (TB T X.K E m)
abbrev AX (X : Cx) (T : String → Value) (E : XK) (es : List Expr) (m : ML) : Prop := PA X es (TL T X.K E m)
theorem x_var (i : Nat) {x : Str} (hN : X.N[i]? = some x) (hv : Vis X.env.scope x) (hd : (x == ("__debug__" : Str)) = false := by decide) (hcd : (x == ("__classdict__" : Str)) = false := by decide) : EX X T E (.Name x pos) (mVar i) := by
  refine pe_imp (pe_var (i := i) hN hv hd hcd) fun σ H Q h => ?_
  obtain ⟨g, st, env, s, e, h⟩ := h
  simp only [mVar] at h
  split at h
  · rename_i x q
    obtain ⟨v, h1, h2⟩ := e.at_ i x q
    exact ⟨v, h1, okR.fin h s h2⟩
  · exact h.elim
theorem x_C {e : Expr} {v : V} {x : PV} (h : PE X e (tC v)) (r : ∀ g H, RV X.K g H x v) : EX X T E e (mC x) :=
  pe_imp h fun σ H Q ⟨g, st, env, s, e, h⟩ => okR.fin h s (r g H)
theorem x_int {i : Int} {j : Nat} : EX X T E (.Constant (.int i) j pos) (mC (.int i)) := x_C pe_int fun _ _ => .int i
theorem x_bl {b : Bool} {j : Nat} : EX X T E (.Constant (.bool b) j pos) (mC (.bl b)) := x_C pe_bl fun _ _ => .bl b
theorem x_non {j : Nat} : EX X T E (.Constant .none j pos) (mC .non) := x_C pe_non fun _ _ => .non
theorem x_str {x : Str} {j : Nat} : EX X T E (.Constant (.str x) j pos) (mC (.str x)) := x_C pe_str fun _ _ => .str x
theorem x_bin {op : Operator} {r : R2} {f : Se2} (ho : OpR X (binaryOp op) r) (hs : S2 T X.K E r f) (ha : EX X T E a ma) (hb : EX X T E b mb) : EX X T E (.BinOp a op b pos) (mBin f ma mb) :=
  pe_imp (pe_op ho ha hb) fun σ H Q ⟨g, st, env, s, e, h⟩ => tv_of s e h fun g1 H1 st1 x v e1 s1 en1 r1 h1 => tv_of s1 en1 h1 fun g2 H2 st2 y u e2 s2 en2 r2 h2 => hs g2 H2 st2 x y v u Q s2 (r1.mono e2) r2 h2
theorem x_cmp {op : CmpOp} {r : R2} {f : Se2} (ho : OpR X (compareOp op) r) (hs : S2 T X.K E r f) (ha : EX X T E a ma) (hb : EX X T E b mb) (hm : behindInMarks op b = false) : EX X T E (.Compare a [op] [b] pos) (mBin f ma mb) :=
  pe_imp (pe_cmpR ho ha hb hm) fun σ H Q ⟨g, st, env, s, e, h⟩ => tv_of s e h fun g1 H1 st1 x v e1 s1 en1 r1 h1 => tv_of s1 en1 h1 fun g2 H2 st2 y u e2 s2 en2 r2 h2 => hs g2 H2 st2 x y v u Q s2 (r1.mono e2) r2 h2
theorem x_ix {r : R2} {f : Se2} (ho : IxR X r) (hs : S2 T X.K E r f) (ha : EX X T E a ma) (hb : EX X T E b mb) (hx : PlainIx b) : EX X T E (.Subscript a b pos) (mBin f ma mb) :=
  pe_imp (pe_ix ho ha hb hx) fun σ H Q ⟨g, st, env, s, e, h⟩ => tv_of s e h fun g1 H1 st1 x v e1 s1 en1 r1 h1 => tv_of s1 en1 h1 fun g2 H2 st2 y u e2 s2 en2 r2 h2 => hs g2 H2 st2 x y v u Q s2 (r1.mono e2) r2 h2
theorem x_un {op : UnaryOp} {r : V → Hp → VK → Prop} {f : Se1} (ho : UnR X (unaryOp op) r) (hs : S1 T X.K E r f) (ha : EX X T E a ma) : EX X T E (.UnaryOp op a pos) (mUn f ma) :=
  pe_imp (pe_un ho ha) fun σ H Q ⟨g, st, env, s, e, h⟩ => tv_of s e h fun g1 H1 st1 x v e1 s1 en1 r1 h1 => hs g1 H1 st1 x v Q s1 r1 h1
theorem x_chain {op op' : CmpOp} {r r' : R2} {f f' : Se2} (ho : OpR X (compareOp op) r) (hs : S2 T X.K E r f) (ho' : OpR X (compareOp op') r') (hs' : S2 T X.K E r' f') (ha : EX X T E a ma) (hb : EX X T E b mb) (hc : EX X T E c mc)
    (hm : lastMarks [op, op'] [b, c] = false := by with_unfolding_all rfl) : EX X T E (.Compare a [op, op'] [b, c] pos) (mChain f f' ma mb mc) :=
  pe_imp (pe_chain ho ho' ha hb hc hm) fun σ H Q ⟨g, st, env, s, e, h⟩ => tv_of s e h fun g1 H1 st1 x v e1 s1 en1 r1 h1 => tv_of s1 en1 h1 fun g2 H2 st2 y u e2 s2 en2 r2 h2 => by
    refine hs g2 H2 st2 x y v u _ s2 (r1.mono e2) r2 (h2.step.imp fun z H3 ⟨g3, st3, zz, e3, s3, r3, h3⟩ => ?_)
    cases zz with
    | bl k =>
      cases r3
      refine ⟨k, rfl, ?_⟩
      cases k with
      | true =>
        rw [if_pos rfl]
        exact tv_of s3 (en2.mono e3) h3 fun g4 H4 st4 w w' e4 s4 en4 r4 h4 => hs' g4 H4 st4 y w u w' Q s4 (r2.mono (e3.trans e4)) r4 h4
      | false =>
        rw [if_neg Bool.false_ne_true]
        exact okR.fin h3 s3 (.bl false)
    | _ => exact h3.elim
theorem x_nil : AX X T E [] mNil := pa_imp pa_nil fun σ H Q ⟨g, st, env, s, e, h⟩ => okR.fin h s .nil
theorem x_cons {e : Expr} {es : List Expr} {m : M} {ms : ML} (ha : EX X T E e m) (hr : AX X T E es ms) (hs : starEach (e :: es) X.env = (false, eval e X.env) :: starEach es X.env := by rfl) : AX X T E (e :: es) (mCons m ms) :=
  pa_imp (pa_cons ha hr hs) fun σ H Q ⟨g, st, env, s, e, h⟩ => tv_of s e h fun g1 H1 st1 x v e1 s1 en1 r1 h1 => tl_of s1 en1 h1 fun g2 H2 st2 xs vs e2 s2 en2 r2 h2 => okR.fin h2 s2 (.cons (r1.mono e2) r2)
theorem x_tup {k : Nat} (h : AX X T E es ms) : EX X T E (.Tuple es k pos) (mApp sTup ms) :=
  pe_imp (pe_tupN h) fun σ H Q ⟨g, st, env, s, e, h⟩ => tl_of s e h fun g1 H1 st1 xs vs e1 s1 en1 r1 h1 => by
    simp only [sTup] at h1
    split at h1
    · rename_i hf
      exact ⟨by rw [← r1.length]; exact fitL_ok hf, giveT s1 r1 h1⟩
    · exact h1.elim
theorem x_lstF (h : AX X T E es ms) : EX X T E (.List es pos) (mApp sLstF ms) :=
  pe_imp (pe_lst h) fun σ H Q ⟨g, st, env, s, e, h⟩ => tl_of s e h fun g1 H1 st1 xs vs e1 s1 en1 r1 h1 => by
    simp only [sLstF] at h1
    split at h1
    · rename_i hf
      exact ⟨by rw [← r1.length]; exact fitL_ok hf, giveF s1 r1 h1⟩
    · exact h1.elim
theorem x_lstM (h : AX X T E es ms) : EX X T E (.List es pos) (mApp sLstM ms) :=
  pe_imp (pe_lst h) fun σ H Q ⟨g, st, env, s, e, h⟩ => tl_of s e h fun g1 H1 st1 xs vs e1 s1 en1 r1 h1 => by
    simp only [sLstM] at h1
    split at h1
    · rename_i hf
      exact ⟨by rw [← r1.length]; exact fitL_ok hf, giveM s1 r1 h1⟩
    · exact h1.elim
theorem x_one {op : BoolOp} (h : EX X T E a ma) : EX X T E (.BoolOp op [a] pos) ma := pe_one h
theorem x_and (ha : EX X T E a ma) (hb : EX X T E (.BoolOp .And (b :: rest) pos) mb) : EX X T E (.BoolOp .And (a :: b :: rest) pos) (mAnd ma mb) :=
  pe_imp (pe_and ha hb) fun σ H Q ⟨g, st, env, s, e, h⟩ => tv_of s e h fun g1 H1 st1 x v e1 s1 en1 r1 h1 => by
    cases x with
    | bl k =>
      cases r1
      refine ⟨k, rfl, ?_⟩
      cases k with
      | true => rw [if_pos rfl]; exact ⟨g1, st1, env, s1, en1, h1⟩
      | false => rw [if_neg Bool.false_ne_true]; exact okR.fin h1 s1 (.bl false)
    | _ => exact h1.elim
theorem x_or (ha : EX X T E a ma) (hb : EX X T E (.BoolOp .Or (b :: rest) pos) mb) : EX X T E (.BoolOp .Or (a :: b :: rest) pos) (mOr ma mb) :=
  pe_imp (pe_or ha hb) fun σ H Q ⟨g, st, env, s, e, h⟩ => tv_of s e h fun g1 H1 st1 x v e1 s1 en1 r1 h1 => by
    cases x with
    | bl k =>
      cases r1
      refine ⟨k, rfl, ?_⟩
      cases k with
      | true => rw [if_pos rfl]; exact okR.fin h1 s1 (.bl true)
      | false => rw [if_neg Bool.false_ne_true]; exact ⟨g1, st1, env, s1, en1, h1⟩
    | _ => exact h1.elim
theorem x_not (ha : EX X T E a ma) : EX X T E (.UnaryOp .Not a pos) (mNot ma) :=
  pe_imp (pe_not ha) fun σ H Q ⟨g, st, env, s, e, h⟩ => tv_of s e h fun g1 H1 st1 x v e1 s1 en1 r1 h1 => by
    cases x with
    | bl k => cases r1; exact ⟨k, rfl, okR.fin h1 s1 (.bl _)⟩
    | _ => exact h1.elim
theorem x_if (hc : TX X T E c ba) (ha : EX X T E a ma) (hb : EX X T E b mb) : EX X T E (.IfExp c a b pos) (mIf ba ma mb) :=
  pe_imp (pe_ifExp hc ha hb) fun σ H Q ⟨g, st, env, s, e, h⟩ => tb_of s e h fun g1 H1 st1 k e1 s1 en1 h1 => by
    cases k with
    | true => rw [if_pos rfl] at h1 ⊢; exact ⟨g1, st1, env, s1, en1, h1⟩
    | false => rw [if_neg Bool.false_ne_true] at h1 ⊢; exact ⟨g1, st1, env, s1, en1, h1⟩
/-! tests -/
theorem t_val (ha : EX X T E a ma) (he : ∀ whole, isTrue a X.env whole = (do let v ← whole; standAt a.pos; holding [v] (truthy v)) := by intro _; rfl) : TX X T E a (bVal ma) :=
  pt_imp (pt_val ha he) fun σ H Q ⟨g, st, env, s, e, h⟩ => tv_of s e h fun g1 H1 st1 x v e1 s1 en1 r1 h1 => by
    cases x with
    | bl k => cases r1; exact ⟨k, rfl, okR.fin h1 s1 rfl⟩
    | _ => exact h1.elim
theorem t_cmp {op : CmpOp} {r : R2} {f : Se2} (ho : OpR X (compareOp op) r) (hs : S2 T X.K E r f) (ha : EX X T E a ma) (hb : EX X T E b mb) (hm : behindInMarks op b = false) : TX X T E (.Compare a [op] [b] pos) (bVal (mBin f ma mb)) := by
  refine pt_imp (pt_cmpR ho ha hb hm) fun σ H Q ⟨g, st, env, s, e, h⟩ => ?_
  have h : okR T X.K rB g H (((mBin f ma mb) env st).bind fun x s1 => match x with
    | .bl b => .ok b s1
    | _ => .bad) Q E := h
  have h' : okR T X.K rB g H ((ma env st).bind fun x s1 => ((mb env s1).bind fun y s2 => f x y s2).bind fun z s3 => match z with
    | .bl b => .ok b s3
    | _ => .bad) Q E := by
    simp only [mBin] at h
    cases q : ma env st with
    | ok x s1 => rw [q] at h; exact h
    | exc n fs s1 => rw [q] at h; exact h
    | bad => rw [q] at h; exact h
  refine tv_of s e h' fun g1 H1 st1 x v e1 s1 en1 r1 h1 => ?_
  have h1' : okR T X.K rB g1 H1 ((mb env st1).bind fun y s2 => (f x y s2).bind fun z s3 => match z with
    | .bl b => .ok b s3
    | _ => .bad) Q E := by
    cases q : mb env st1 with
    | ok x s1 => rw [q] at h1; exact h1
    | exc n fs s1 => rw [q] at h1; exact h1
    | bad => rw [q] at h1; exact h1
  refine tv_of s1 en1 h1' fun g2 H2 st2 y u e2 s2 en2 r2 h2 => ?_
  refine hs g2 H2 st2 x y v u _ s2 (r1.mono e2) r2 (h2.step.imp fun z H3 ⟨g3, st3, zz, e3, s3, r3, h3⟩ => ?_)
  cases zz with
  | bl k => cases r3; exact ⟨k, rfl, okR.fin h3 s3 rfl⟩
  | _ => exact h3.elim
theorem t_chain {op op' : CmpOp} {r r' : R2} {f f' : Se2} (ho : OpR X (compareOp op) r) (hs : S2 T X.K E r f) (ho' : OpR X (compareOp op') r') (hs' : S2 T X.K E r' f') (ha : EX X T E a ma) (hb : EX X T E b mb) (hc : EX X T E c mc)
    (hm : lastMarks [op, op'] [b, c] = false := by with_unfolding_all rfl) : TX X T E (.Compare a [op, op'] [b, c] pos) (bVal (mChain f f' ma mb mc)) := by
  refine pt_imp (pt_chain ho ho' ha hb hc hm) fun σ H Q ⟨g, st, env, s, e, h⟩ => ?_
  have hx : TV T X.K E (mChain f f' ma mb mc) σ H fun x H' => ∃ k, x = .bl k ∧ Q k H' := tv_of s e h fun g1 H1 st1 x v e1 s1 en1 r1 h1 => by
    cases x with
    | bl k => cases r1; exact ⟨k, rfl, okR.fin h1 s1 rfl⟩
    | _ => exact h1.elim
  obtain ⟨g, st, env, s, e, h⟩ := hx
  exact tv_of s e h fun g1 H1 st1 x v e1 s1 en1 r1 h1 => tv_of s1 en1 h1 fun g2 H2 st2 y u e2 s2 en2 r2 h2 => by
    refine hs g2 H2 st2 x y v u _ s2 (r1.mono e2) r2 (h2.step.imp fun z H3 ⟨g3, st3, zz, e3, s3, r3, h3⟩ => ?_)
    cases zz with
    | bl k =>
      cases r3
      refine ⟨k, rfl, ?_⟩
      cases k with
      | true =>
        rw [if_pos rfl]
        exact tv_of s3 (en2.mono e3) h3 fun g4 H4 st4 w w' e4 s4 en4 r4 h4 => hs' g4 H4 st4 y w u w' _ s4 (r2.mono (e3.trans e4)) r4 h4
      | false =>
        rw [if_neg Bool.false_ne_true]
        exact okR.fin h3 s3 (.bl false)
    | _ => exact h3.elim
theorem t_not (ha : TX X T E a ba) : TX X T E (.UnaryOp .Not a pos) (bNot ba) :=
  pt_imp (pt_not ha) fun σ H Q ⟨g, st, env, s, e, h⟩ => tb_of s e h fun g1 H1 st1 k e1 s1 en1 h1 => okR.fin h1 s1 rfl
theorem t_and1 (ha : TX X T E a ba) : WX X T E (.BoolOp .And [a] pos) ba := pw_and1 ha
theorem t_or1 (ha : TX X T E a ba) : WX X T E (.BoolOp .Or [a] pos) ba := pw_or1 ha
theorem t_and (ha : TX X T E a ba) (hb : WX X T E (.BoolOp .And (b :: rest) pos) bb) : WX X T E (.BoolOp .And (a :: b :: rest) pos) (bAnd ba bb) :=
  pw_imp (pw_and ha hb) fun σ H Q ⟨g, st, env, s, e, h⟩ => tb_of s e h fun g1 H1 st1 k e1 s1 en1 h1 => by
    cases k with
    | true => rw [if_pos rfl] at h1 ⊢; exact ⟨g1, st1, env, s1, en1, h1⟩
    | false => rw [if_neg Bool.false_ne_true] at h1 ⊢; exact okR.fin h1 s1 rfl
theorem t_or (ha : TX X T E a ba) (hb : WX X T E (.BoolOp .Or (b :: rest) pos) bb) : WX X T E (.BoolOp .Or (a :: b :: rest) pos) (bOr ba bb) :=
  pw_imp (pw_or ha hb) fun σ H Q ⟨g, st, env, s, e, h⟩ => tb_of s e h fun g1 H1 st1 k e1 s1 en1 h1 => by
    cases k with
    | true => rw [if_pos rfl] at h1 ⊢; exact okR.fin h1 s1 rfl
    | false => rw [if_neg Bool.false_ne_true] at h1 ⊢; exact ⟨g1, st1, env, s1, en1, h1⟩
end
end Sim
set_option Elab.async false
set_option linter.all false
set_option maxRecDepth 100000
set_option maxHeartbeats 4000000
namespace Sim
open PySem PySem.Spec PyProof.Rows L2 PySem.SeqAt PySem.MeetsSeq
open AutoSeq1 (wpAny_loadPart')
theorem str_eq_declines_dict (b : Str) (u : Tok) (l : Addr) (o : Obj) (ho : o.cls = .type "dict") (hd : ∀ v, o.data ≠ .prim v) :
    Meets (Builtin.«str.__eq__» ⟨[.str b u, .ref l], []⟩) (fun _ R s => s.heap.get? l = some o ∧ R (.ok (.ret .notImplemented)) s) :=
  .of_wp fun prog w A R s h => by
    obtain ⟨hp, g, d, tk, os⟩ := s
    obtain ⟨hl, h⟩ := h
    obtain ⟨c, dd, da, sl⟩ := o
    cases ho
    cases da with
    | prim v => exact absurd rfl (hd v)
    | _ =>
      wp_walk using wpAny_loadPart' hl, wpAny_load hl
      exact ⟨_, rfl, h⟩
section
variable {X : Cx}
theorem dict_declines {s : Shared} {a : Addr} {z : Str} {t : Tok} {Q' : Value → Shared → Prop} (da : s.TypeIs (.ref a) "dict") (hq : Q' .notImplemented s) {prog : Program} {w : World} {A : Around} {E : Value → Shared → Prop} :
    wpAny (model prog w) A (call (.builtin "dict.__eq__") [.ref a, .str z t]) Q' E s := by
  refine wpAny_call_entry PySem.F.slot_dict_eq da PySem.F.entry_dict_eq ?_ (PySem.F.args_dict_eq_2 _ _)
  show wpAny _ _ (Builtin.Dict.dictSlotArgs "__eq__" ⟨[.ref a, .str z t], []⟩ >>= _) _ _ s
  refine wpAny_bind ?_
  unfold Builtin.Dict.dictSlotArgs
  refine wpAny_bind (wpAny_notOrdered_dict da ?_)
  refine wpAny_pure ?_
  refine wpAny_bind (wpAny_isInstance (T := "str") (typeIs_str s z t) PySem.F.sub_str_dict ?_)
  rw [if_pos (show (!false) = true from rfl)]
  exact wpAny_bind (wpAny_rule (wpAny_pure ⟨_, rfl, hq⟩))
theorem op_eq_dS (hu : X.A.units < cLine) : OpR X (compareOp .Eq) (fun x y H Q => ∃ a kvs z, ((x = .ref a ∧ y = .str z) ∨ (x = .str z ∧ y = .ref a)) ∧ H a = some (.dK kvs) ∧ Q (.bl false) H) := by
  intro pins s σ H x y v u Q I rx ry h
  obtain ⟨a, kvs, z, hxy, ea, q⟩ := h
  obtain ⟨_, ya, va, ra, da⟩ := (show ObjOk X.prog X.w H s.heap a (.dK kvs) from I.hok a _ ea)
  obtain ⟨o, es, ep, ho, hex, hdt, _⟩ := id da
  have hd : ∀ v, o.data ≠ .prim v := fun v e => by rw [hdt] at e; cases e
  rcases hxy with ⟨rfl, rfl⟩ | ⟨rfl, rfl⟩
  · obtain rfl : v = Value.ref a := rx
    obtain ⟨t, rfl⟩ := ry
    show wpAny _ _ (richCompare .Eq _ _) _ _ _
    refine rc_eq_decline_or (k := false) da.typeIs (typeIs_str s z t) (by decide) F.sub_str_dict F.slot_dict_eq F.slot_str_eq_refl ?_ ?_ ?_ (.inr hu) (fin_bl I q rfl)
    · intro Q' hq; exact dict_declines da.typeIs hq
    · intro Q' hq; exact call_meets F.slot_str_eq_refl (typeIs_str s z t) F.entry_str_eq (F.args_str_eq_2 _ _) (str_eq_declines_dict z t a o hex.1 hd) ⟨ho, hq⟩
    · intro Q' hq; exact wpAny_pure hq
  · obtain rfl : u = Value.ref a := ry
    obtain ⟨t, rfl⟩ := rx
    show wpAny _ _ (richCompare .Eq _ _) _ _ _
    refine rc_eq_decline_or (k := false) (typeIs_str s z t) da.typeIs (by decide) F.sub_dict_str F.slot_str_eq F.slot_dict_eq_refl ?_ ?_ ?_ (.inr hu) (fin_bl I q rfl)
    · intro Q' hq; exact call_meets F.slot_str_eq (typeIs_str s z t) F.entry_str_eq (F.args_str_eq_2 _ _) (str_eq_declines_dict z t a o hex.1 hd) ⟨ho, hq⟩
    · intro Q' hq; exact dict_declines da.typeIs hq
    · intro Q' hq; exact wpAny_pure hq
end
end Sim
set_option Elab.async false
set_option linter.all false
set_option maxRecDepth 100000
set_option maxHeartbeats 4000000
namespace Sim
open PySem PySem.Spec PyProof.Rows L2
variable [Tb] [Lm]
/-! ### operators -/
def fitS (a b : Str) : Bool := decide (a.length + b.length ≤ 16777216)
def sAdd : Se2 := fun x y st => match x, y with
  | .int i, .int j => .ok (.int (i + j)) st
  | .str a, .str b => if fitS a b then .ok (.str (a ++ b)) st else .bad
  | .tup xs, .tup ys => if fitL (xs ++ ys) then .ok (.tup (xs ++ ys)) st else .bad
  | x, y => match asM st x, asM st y with
    | some xs, some ys => if fitL (xs ++ ys) then .ok (.lst (xs ++ ys)) st else .bad
    | _, _ => .bad
def sSub : Se2 := fun x y st => match x, y with
  | .int i, .int j => .ok (.int (i - j)) st
  | _, _ => .bad
def smallB (i : Int) : Bool := decide (i.natAbs.log2 < 500000)
def sMul : Se2 := fun x y st => match x, y with
  | .int i, .int j => if smallB i && smallB j then .ok (.int (i * j)) st else .bad
  | .tup xs, .int k => if decide (xs ≠ []) && decide (2 ≤ k) && decide (k ≤ 1000) && decide (xs.length ≤ 1000) then .ok (.tup (List.replicate k.toNat xs).flatten) st else .bad
  | x, .int k => match asM st x with
    | some xs => if decide (0 ≤ k) && decide (k < 100000) && decide (xs.length ≤ 100) then .ok (.lst (List.replicate k.toNat xs).flatten) st else .bad
    | none => .bad
  | _, _ => .bad
def sDiv : Se2 := fun x y st => match x, y with
  | .int i, .int j => if decide (0 < j) && decide (j.natAbs.log2 < 9000) then .ok (.int (i / j)) st else .bad
  | _, _ => .bad
def sMod : Se2 := fun x y st => match x, y with
  | .int i, .int j => if decide (0 < j) then .ok (.int (i % j)) st else .bad
  | _, _ => .bad
def sPow : Se2 := fun x y st => match x, y with
  | .int i, .int j => if decide (0 ≤ j) && decide (j ≤ 1000000) && decide (i.natAbs < 2 ^ 64) then .ok (.int (i ^ j.toNat)) st else .bad
  | _, _ => .bad
/-- == of what is not data's own: both of one flat kind -/
def flatEq : PV → PV → Option Bool
  | .int i, .int j => some (decide (i = j))
  | .str a, .str b => some (decide (a = b))
  | .bl a, .bl b => some (decide (a = b))
  | .int _, .str _ => some false
  | .str _, .int _ => some false
  | .non, .non => some true
  | .non, .int _ => some false
  | .int _, .non => some false
  | .non, .str _ => some false
  | .str _, .non => some false
  | _, _ => none
/-- a dict and a text -/
def dctStr : PV → PV → Bool
  | .dct _, .str _ => true
  | .str _, .dct _ => true
  | _, _ => false
abbrev rDS : R2 := fun x y H Q => ∃ a kvs z, ((x = .ref a ∧ y = .str z) ∨ (x = .str z ∧ y = .ref a)) ∧ H a = some (.dK kvs) ∧ Q (.bl false) H
def sEqn (neg : Bool) : Se2 := fun x y st => match flatEq x y with
  | some b => .ok (.bl (if neg then !b else b)) st
  | none => match toDS st x, toDS st y with
    | some d, some e => if SeqAt.shaped d && SeqAt.shaped e then .ok (.bl (if neg then !PyData.eqv d e else PyData.eqv d e)) st else .bad
    | _, _ => match toDF st 3 x, toDF st 3 y with
      | some d, some e => if SeqAt.shaped d && SeqAt.shaped e then .ok (.bl (if neg then !PyData.eqv d e else PyData.eqv d e)) st else .bad
      | _, _ => if !neg && dctStr x y then .ok (.bl false) st else .bad
abbrev sEq : Se2 := sEqn false
abbrev sNe : Se2 := sEqn true
/-- an order, of ints and of texts -/
def sOrd (p : Int → Int → Bool) (q : List Nat → List Nat → Bool) : Se2 := fun x y st => match x, y with
  | .int i, .int j => .ok (.bl (p i j)) st
  | .str a, .str b => .ok (.bl (q a.cps.toList b.cps.toList)) st
  | _, _ => .bad
abbrev sLt : Se2 := sOrd (fun i j => decide (i < j)) (fun a b => decide (a < b))
abbrev sLe : Se2 := sOrd (fun i j => decide (i ≤ j)) (fun a b => !decide (b < a))
abbrev sGt : Se2 := sOrd (fun i j => decide (j < i)) (fun a b => decide (b < a))
abbrev sGe : Se2 := sOrd (fun i j => decide (j ≤ i)) (fun a b => !decide (a < b))
/-- is, is not of None; of bools -/
def isNon : PV → Bool
  | .non => true
  | _ => false
def sIsn (neg : Bool) : Se2 := fun x y st => match x, y with
  | x, .non => match x with
    | .raw _ => .bad
    | x => .ok (.bl (if neg then !isNon x else isNon x)) st
  | .bl a, .bl b => .ok (.bl (if neg then !decide (a = b) else decide (a = b))) st
  | _, _ => .bad
/-- in, not in -/
def toKey : PV → Option Key
  | .int i => some (.inl i)
  | .str x => some (.inr x)
  | _ => none
def lookK (k : Key) : List (Key × PV) → Option PV
  | [] => none
  | (j, x) :: r => if j = k then some x else lookK k r
/-! ### keys -/
mutual
def toNK : PV → Option NestedKey
  | .non => some .none
  | .int i => some (.num i)
  | .str x => some (.text x)
  | .tup xs => (toNKs xs).map .tup
  | _ => none
def toNKs : List PV → Option (List NestedKey)
  | [] => some []
  | x :: xs => match toNK x, toNKs xs with
    | some k, some ks => some (k :: ks)
    | _, _ => none
end
mutual
theorem toNK_ok : ∀ {x : PV} {k : NestedKey}, toNK x = some k → x = nkP k
  | .non, _, e => by cases e; rfl
  | .int i, _, e => by cases e; rfl
  | .str x, _, e => by cases e; rfl
  | .tup xs, _, e => by
    simp only [toNK, Option.map_eq_some_iff] at e
    obtain ⟨ks, e1, rfl⟩ := e
    rw [toNKs_ok e1]; rfl
theorem toNKs_ok : ∀ {xs : List PV} {ks : List NestedKey}, toNKs xs = some ks → xs = nkPs ks
  | [], _, e => by cases e; rfl
  | x :: xs, _, e => by
    simp only [toNKs] at e
    split at e
    · rename_i k ks e1 e2
      cases e
      rw [toNK_ok e1, toNKs_ok e2]; rfl
    · cases e
end
/-- a tuple that can be a key -/
def toTK (x : PV) : Option NestedKey := match x with
  | .tup xs => match toNKs xs with
    | some ks => if decide ((NestedKey.tup ks).depth ≤ 8) = true then some (.tup ks) else none
    | none => none
  | _ => none
theorem toTK_ok {x : PV} {k : NestedKey} (e : toTK x = some k) : x = nkP k ∧ k.depth ≤ 8 ∧ ∃ ks, k = .tup ks := by
  unfold toTK at e
  split at e
  · split at e
    · rename_i ks e1
      split at e
      · rename_i hd
        cases e
        exact ⟨by rw [toNKs_ok e1]; rfl, of_decide_eq_true hd, ks, rfl⟩
      · cases e
    · cases e
  · cases e
/-- a dict with such keys -/
def asN (st : Sto) : PV → Option (List (NestedKey × PV))
  | .dd xs => some xs
  | .ref k => match st[k]? with
    | some (.dd xs) => some xs
    | _ => none
  | _ => none
def lookN (k : NestedKey) : List (NestedKey × PV) → Option PV
  | [] => none
  | (j, x) :: r => if j = k then some x else lookN k r
def putN (kvs : List (NestedKey × PV)) (k : NestedKey) (x : PV) : List (NestedKey × PV) := if (lookN k kvs).isSome then kvs.map (fun p => if p.1 = k then (p.1, x) else p) else kvs ++ [(k, x)]
def sInn (neg : Bool) : Se2 := fun x y st => match y with
  | .str z => match x with
    | .str c => match c.cps.toList with
      | [n] => .ok (.bl (if neg then !decide (n ∈ z.cps.toList) else decide (n ∈ z.cps.toList))) st
      | _ => .bad
    | _ => .bad
  | .tup ys => match toDS st x, toDs ys with
    | some d, some ds => if SeqAt.shaped d && SeqAt.shaped (.tuple ds) then .ok (.bl (if neg then !ds.any fun z => PyData.eqv z d else ds.any fun z => PyData.eqv z d)) st else .bad
    | _, _ => .bad
  | y => match asD st y with
    | some kvs => match toKey x with
      | some k => .ok (.bl (if neg then !(lookK k kvs).isSome else (lookK k kvs).isSome)) st
      | none => match kvs, toTK x with
        | [], some _ => .ok (.bl neg) st
        | _, _ => .bad
    | none => match toDS st x, (asL st y).bind toDs with
      | some d, some ds => if SeqAt.shaped d && SeqAt.shaped (.list ds) then .ok (.bl (if neg then !ds.any fun z => PyData.eqv z d else ds.any fun z => PyData.eqv z d)) st else .bad
      | _, _ => match asN st y, toTK x with
        | some kvs, some k => .ok (.bl (if neg then !(lookN k kvs).isSome else (lookN k kvs).isSome)) st
        | _, _ => .bad
/-- x[i] -/
def sIx : Se2 := fun x y st => match x with
  | .str z => match y with
    | .int i => match atI z.cps.toList i with
      | some c => if decide (z.length ≤ 16777216) then .ok (.str ⟨#[c]⟩) st else .bad
      | none => .bad
    | _ => .bad
  | .tup xs => match y with
    | .int i => match atI xs i with
      | some v => .ok v st
      | none => .bad
    | _ => .bad
  | x => match asD st x with
    | some kvs => match toKey y with
      | some k => match lookK k kvs with
        | some v => .ok v st
        | none => .bad
      | none => .bad
    | none => match asL st x with
      | some xs => match y with
        | .int i => match atI xs i with
          | some v => .ok v st
          | none => .bad
        | _ => .bad
      | none => match asN st x, toTK y with
        | some kvs, some k => match lookN k kvs with
          | some v => .ok v st
          | none => .bad
        | _, _ => .bad
section
variable {X : Cx} {T : String → Value} {E : XK}
abbrev rAdd4 (K : PySem.W.Frag) : R2 := fun x y H Q => ((rI0 fun i j => .int (i + j)) x y H Q ∨ (∃ i j, x = .str i ∧ y = .str j ∧ i.length + j.length ≤ sizeLine ∧ Q (.str (i ++ j)) H)) ∨ (rCat x y H Q ∨ rCatN K x y H Q)
theorem o_add : OpR X (binaryOp .Add) (rAdd4 X.K) := (op_add.or op_add_str).or (op_cat.or op_catN)
theorem s_cat {g : G} {H : Hp} {st : Sto} {x y : PV} {v u : V} {Q : VK} (s : StOk X.K g H st) (r1 : RV X.K g H x v) (r2 : RV X.K g H y u)
    (h : okR T X.K (rV X.K) g H (match asM st x, asM st y with | some xs, some ys => if fitL (xs ++ ys) then .ok (.lst (xs ++ ys)) st else .bad | _, _ => .bad) Q E) : rCat v u H Q := by
  split at h
  · rename_i xs ys e1 e2
    obtain ⟨a, vs, rfl, h1, l1⟩ := asM_ok s r1 e1
    obtain ⟨b, ws, rfl, h2, l2⟩ := asM_ok s r2 e2
    split at h
    · rename_i hf
      have := fitL_ok hf
      rw [List.length_append, l1.length, l2.length] at this
      exact ⟨a, b, vs, ws, rfl, rfl, h1, h2, this, giveF s (l1.append l2) h⟩
    · exact h.elim
  · exact h.elim
theorem s_add : S2 T X.K E (rAdd4 X.K) sAdd := by
  intro g H st x y v u Q s r1 r2 h
  unfold sAdd at h
  split at h
  · cases r1; cases r2; exact .inl (.inl ⟨_, _, rfl, rfl, okR.fin h s (.int _)⟩)
  · cases r1; cases r2
    split at h
    · rename_i hf
      exact .inl (.inr ⟨_, _, rfl, rfl, by rw [sizeLine_eq]; exact of_decide_eq_true hf, okR.fin h s (.str _)⟩)
    · exact h.elim
  · rename_i xs ys
    obtain ⟨a, vs, rfl, h1, l1⟩ := asT_ok r1 rfl
    obtain ⟨b, ws, rfl, h2, l2⟩ := asT_ok r2 rfl
    split at h
    · rename_i hf
      have := fitL_ok hf
      rw [List.length_append, l1.length, l2.length] at this
      refine .inr (.inr ⟨a, b, vs, ws, rfl, rfl, h1.t, h2.t, this, fun e => ?_, fun _ e => ?_, fun _ _ => giveT s (l1.append l2) h⟩)
      · subst e
        cases l1
        exact okR.fin h s (.tup h2 l2)
      · subst e
        cases l2
        rw [List.append_nil] at h
        exact okR.fin h s (.tup h1 l1)
    · exact h.elim
  · exact .inr (.inl (s_cat s r1 r2 h))
theorem s_sub : S2 T X.K E (rI0 fun i j => .int (i - j)) sSub := by
  intro g H st x y v u Q s r1 r2 h
  unfold sSub at h
  split at h
  · cases r1; cases r2; exact ⟨_, _, rfl, rfl, okR.fin h s (.int _)⟩
  · exact h.elim
abbrev rMul3 (K : PySem.W.Frag) : R2 := fun x y H Q => (rI CMulW fun i j => .int (i * j)) x y H Q ∨ (rRep x y H Q ∨ rRepN K x y H Q)
theorem o_mul : OpR X (binaryOp .Mult) (rMul3 X.K) := op_mulW.or (op_rep.or op_repN)
theorem s_mul : S2 T X.K E (rMul3 X.K) sMul := by
  intro g H st x y v u Q s r1 r2 h
  unfold sMul at h
  split at h
  · cases r1; cases r2
    split at h
    · rename_i hf
      rw [Bool.and_eq_true] at hf
      have a := of_decide_eq_true hf.1
      have b := of_decide_eq_true hf.2
      exact .inl ⟨_, _, rfl, rfl, Nat.add_lt_add a b, okR.fin h s (.int _)⟩
    · exact h.elim
  · obtain ⟨a, vs, rfl, h1, l1⟩ := asT_ok r1 rfl
    cases r2
    split at h
    · rename_i hf
      simp only [Bool.and_eq_true, decide_eq_true_eq] at hf
      obtain ⟨⟨⟨f1, f2⟩, f3⟩, f4⟩ := hf
      refine .inr (.inr ⟨a, _, vs, rfl, rfl, h1.t, fun e => ?_, f2, f3, by rw [← l1.length]; exact f4, giveT s (l1.rep _) h⟩)
      subst e
      cases l1
      exact f1 rfl
    · exact h.elim
  · split at h
    · rename_i xs e1
      obtain ⟨a, vs, rfl, h1, l1⟩ := asM_ok s r1 e1
      cases r2
      split at h
      · rename_i hf
        simp only [Bool.and_eq_true, decide_eq_true_eq] at hf
        obtain ⟨⟨f1, f2⟩, f3⟩ := hf
        refine .inr (.inl ⟨a, _, vs, rfl, rfl, h1, by omega, by omega, ?_, giveF s (l1.rep _) h⟩)
        rw [← l1.length, sizeLine_eq]
        exact Nat.le_trans (Nat.mul_le_mul f3 (show _ ≤ 100000 by omega)) (by decide)
      · exact h.elim
    · exact h.elim
  · exact h.elim
theorem s_div : S2 T X.K E (rI CDivW fun i j => .int (i / j)) sDiv := by
  intro g H st x y v u Q s r1 r2 h
  unfold sDiv at h
  split at h
  · cases r1; cases r2
    split at h
    · rename_i hf
      simp only [Bool.and_eq_true, decide_eq_true_eq] at hf
      exact ⟨_, _, rfl, rfl, hf, okR.fin h s (.int _)⟩
    · exact h.elim
  · exact h.elim
theorem s_mod : S2 T X.K E (rI (fun _ j => 0 < j) fun i j => .int (i % j)) sMod := by
  intro g H st x y v u Q s r1 r2 h
  unfold sMod at h
  split at h
  · cases r1; cases r2
    split at h
    · rename_i hf
      exact ⟨_, _, rfl, rfl, of_decide_eq_true hf, okR.fin h s (.int _)⟩
    · exact h.elim
  · exact h.elim
theorem s_pow : S2 T X.K E (rI CPow fun i j => .int (i ^ j.toNat)) sPow := by
  intro g H st x y v u Q s r1 r2 h
  unfold sPow at h
  split at h
  · cases r1; cases r2
    split at h
    · rename_i hf
      simp only [Bool.and_eq_true, decide_eq_true_eq] at hf
      exact ⟨_, _, rfl, rfl, ⟨hf.1.1, hf.1.2, hf.2⟩, okR.fin h s (.int _)⟩
    · exact h.elim
  · exact h.elim
theorem flatEq_ok {g : G} {H : Hp} {x y : PV} {v u : V} {b : Bool} (r1 : RV X.K g H x v) (r2 : RV X.K g H y u) (e : flatEq x y = some b) : scal v u = true ∧ decide (v = u) = b := by
  unfold flatEq at e
  split at e <;> first | (cases e; cases r1; cases r2; exact ⟨rfl, by simp⟩) | exact nomatch e
theorem s_eqn {neg : Bool} {g : G} {H : Hp} {st : Sto} {x y : PV} {v u : V} {Q : VK} (s : StOk X.K g H st) (r1 : RV X.K g H x v) (r2 : RV X.K g H y u) (h : okR T X.K (rV X.K) g H (sEqn neg x y st) Q E) :
    (scal v u = true ∧ Q (.bl (if neg then !decide (v = u) else decide (v = u))) H) ∨
    (∃ d e, Dp X.K H v d ∧ Dp X.K H u e ∧ SeqAt.shaped d = true ∧ SeqAt.shaped e = true ∧ Q (.bl (if neg then !PyData.eqv d e else PyData.eqv d e)) H) ∨ (neg = false ∧ rDS v u H Q) := by
  unfold sEqn at h
  split at h
  · rename_i b eb
    obtain ⟨q1, q2⟩ := flatEq_ok r1 r2 eb
    rw [← q2] at h
    exact .inl ⟨q1, okR.fin h s (.bl _)⟩
  split at h
  · rename_i d e e1 e2
    split at h
    · rename_i hf
      rw [Bool.and_eq_true] at hf
      exact .inr (.inl ⟨d, e, toDS_ok s r1 e1, toDS_ok s r2 e2, hf.1, hf.2, okR.fin h s (.bl _)⟩)
    · exact h.elim
  · split at h
    · rename_i d e e1 e2
      split at h
      · rename_i hf
        rw [Bool.and_eq_true] at hf
        exact .inr (.inl ⟨d, e, toDF_ok s _ r1 e1, toDF_ok s _ r2 e2, hf.1, hf.2, okR.fin h s (.bl _)⟩)
      · exact h.elim
    · split at h
      · rename_i hn
        simp only [Bool.and_eq_true, Bool.not_eq_true'] at hn
        refine .inr (.inr ⟨hn.1, ?_⟩)
        have hd := hn.2
        unfold dctStr at hd
        split at hd
        · cases r1 with
          | dct hf hh l =>
            cases r2
            exact ⟨_, _, _, .inl ⟨rfl, rfl⟩, hh, okR.fin h s (.bl _)⟩
        · cases r2 with
          | dct hf hh l =>
            cases r1
            exact ⟨_, _, _, .inr ⟨rfl, rfl⟩, hh, okR.fin h s (.bl _)⟩
        · cases hd
      · exact h.elim
abbrev rEq2 (K : PySem.W.Frag) : R2 := fun x y H Q => rEq x y H Q ∨ rEqD K x y H Q ∨ rDS x y H Q
abbrev rNe2 (K : PySem.W.Frag) : R2 := fun x y H Q => rNe x y H Q ∨ rNeD K x y H Q
theorem o_eq2 (hu : X.A.units + 64 < cLine) : OpR X (compareOp .Eq) (rEq2 X.K) := op_eq.or ((op_eqD hu).or (op_eq_dS (by omega)))
theorem o_ne2 (hu : X.A.units + 64 < cLine) : OpR X (compareOp .NotEq) (rNe2 X.K) := op_ne.or (op_neD hu)
theorem s_eq : S2 T X.K E (rEq2 X.K) sEq := fun _ _ _ _ _ _ _ _ s r1 r2 h => (s_eqn s r1 r2 h).imp id fun z => z.imp id fun z => z.2
theorem s_ne : S2 T X.K E (rNe2 X.K) sNe := fun _ _ _ _ _ _ _ _ s r1 r2 h => (s_eqn s r1 r2 h).imp id fun z => z.elim id fun z => nomatch z.1
abbrev rOrd (p : Int → Int → Bool) (q : List Nat → List Nat → Bool) : R2 := fun x y H Q => (rI0 fun i j => .bl (p i j)) x y H Q ∨ (∃ i j, x = .str i ∧ y = .str j ∧ Q (.bl (q i.cps.toList j.cps.toList)) H)
theorem s_ord {p : Int → Int → Bool} {q : List Nat → List Nat → Bool} : S2 T X.K E (rOrd p q) (sOrd p q) := by
  intro g H st x y v u Q s r1 r2 h
  unfold sOrd at h
  split at h
  · cases r1; cases r2; exact .inl ⟨_, _, rfl, rfl, okR.fin h s (.bl _)⟩
  · cases r1; cases r2; exact .inr ⟨_, _, rfl, rfl, okR.fin h s (.bl _)⟩
  · exact h.elim
theorem o_lt : OpR X (compareOp .Lt) (rOrd (fun i j => decide (i < j)) (fun a b => decide (a < b))) := op_lt.or op_lt_str
theorem o_le : OpR X (compareOp .LtE) (rOrd (fun i j => decide (i ≤ j)) (fun a b => !decide (b < a))) := op_le.or op_le_str
theorem o_gt : OpR X (compareOp .Gt) (rOrd (fun i j => decide (j < i)) (fun a b => decide (b < a))) := op_gt.or op_gt_str
theorem o_ge : OpR X (compareOp .GtE) (rOrd (fun i j => decide (j ≤ i)) (fun a b => !decide (a < b))) := op_ge.or op_ge_str
abbrev rIsn : R2 := fun x y H Q => (y = .non ∧ Q (.bl (decide (x = .non))) H) ∨ rIsB x y H Q
abbrev rNotn : R2 := fun x y H Q => (y = .non ∧ Q (.bl (!decide (x = .non))) H) ∨ rNotB x y H Q
theorem o_is : OpR X (compareOp .Is) rIsn := op_isN.or op_isBl
theorem o_isnot : OpR X (compareOp .IsNot) rNotn := op_notN.or op_notBl
theorem isNon_ok {K : PySem.W.Frag} {g : G} {H : Hp} {x : PV} {v : V} (r : RV K g H x v) (n : ∀ w, x ≠ .raw w) : decide (v = .non) = isNon x := by
  cases r with
  | raw v => exact absurd rfl (n v)
  | _ => rfl
theorem s_is : S2 T X.K E rIsn (sIsn false) := by
  intro g H st x y v u Q s r1 r2 h
  unfold sIsn at h
  split at h
  · cases r2
    split at h
    · exact h.elim
    · rename_i n
      exact .inl ⟨rfl, by rw [isNon_ok r1 n]; exact okR.fin h s (.bl _)⟩
  · cases r1; cases r2; exact .inr ⟨_, _, rfl, rfl, okR.fin h s (.bl _)⟩
  · exact h.elim
theorem s_isnot : S2 T X.K E rNotn (sIsn true) := by
  intro g H st x y v u Q s r1 r2 h
  unfold sIsn at h
  split at h
  · cases r2
    split at h
    · exact h.elim
    · rename_i n
      exact .inl ⟨rfl, by rw [isNon_ok r1 n]; exact okR.fin h s (.bl _)⟩
  · cases r1; cases r2; exact .inr ⟨_, _, rfl, rfl, okR.fin h s (.bl _)⟩
  · exact h.elim
end
end Sim
set_option Elab.async false
set_option linter.all false
set_option maxRecDepth 100000
set_option maxHeartbeats 4000000
/-! dicts whose keys are tuples of whole numbers, texts and such tuples -/
namespace Sim
open PySem PySem.Spec PyProof.Rows L2
variable [Tb] [Lm]
/-- what is known of the hashes, where no tables of code are told -/
structure Hz (w : World) : Prop where
  hs : ∀ k : NestedKey, Tb.hs k = k.hash w
  tb : Tb.tabs = []
/-! ### keys -/
/-- b is where the key k stands -/
def KeyAt (K : PySem.W.Frag) (H : Hp) (k : NestedKey) (b : Addr) : Prop := (∃ g, RV K g H (nkP k) (.ref b)) ∧ k.depth ≤ 8
def KeysAt (K : PySem.W.Frag) (H : Hp) (es : List (NestedKey × Addr × V)) : Prop := ∀ p ∈ es, KeyAt K H p.1 p.2.1
theorem keysAt_of {K : PySem.W.Frag} {g : G} {H : Hp} : ∀ {kvs : List (NestedKey × PV)} {es : List (NestedKey × Addr × V)}, RVD K g H kvs es → KeysAt K H es
  | _, _, .nil => fun p hp => nomatch hp
  | _, _, .cons q d r l => fun p hp => by
    rcases List.mem_cons.mp hp with e | e
    · rw [e]; exact ⟨⟨g, q⟩, d⟩
    · exact keysAt_of l p e
section
variable {X : Cx} {pins : List (Addr × Obj)} {σ : L2.St} {H : Hp} {s : Shared}
mutual
theorem nk_is (I : Inv X pins σ H s) {g : G} : ∀ (k : NestedKey) {v : V} {u : Value}, RV X.K g H (nkP k) v → RelV v u → NestedIs s.heap k u
  | .none, _, _, r, ru => by
    simp only [nkP] at r
    cases r; cases ru; exact .none
  | .num i, _, _, r, ru => by
    simp only [nkP] at r
    cases r; obtain ⟨t, rfl⟩ := ru; exact .int i t
  | .text x, _, _, r, ru => by
    simp only [nkP] at r
    cases r; obtain ⟨t, rfl⟩ := ru; exact .text x t
  | .tup ks, _, _, r, ru => by
    simp only [nkP] at r
    cases r with
    | tup h l =>
      obtain ⟨its, rv, ⟨o, ho, hc, n, hd⟩, _⟩ := I.tuple h.t
      cases ru
      exact .tup ho hc hd (by simpa using nks_is I ks l rv)
theorem nks_is (I : Inv X pins σ H s) {g : G} : ∀ (ks : List NestedKey) {vs : List V} {us : List Value}, RVL X.K g H (nkPs ks) vs → Vals vs us → NestedAll s.heap ks us
  | [], _, _, l, rv => by
    simp only [nkPs] at l
    cases l; cases rv; exact .nil
  | k :: ks, _, _, l, rv => by
    simp only [nkPs] at l
    cases l with
    | cons r l =>
      cases rv with
      | cons r1 r2 => exact .cons (nk_is I k r r1) (nks_is I ks l r2)
end
theorem keyAt_is (I : Inv X pins σ H s) {k : NestedKey} {b : Addr} (h : KeyAt X.K H k b) : (nestedKind X.prog X.w).is s.heap k b := by
  obtain ⟨⟨g, r⟩, d⟩ := h
  exact ⟨nk_is I k r rfl, d⟩
end
/-! ### the entries -/
def lookE (k : NestedKey) (es : List (NestedKey × Addr × V)) : Option V := (es.find? fun p => decide (p.1 = k)).map (·.2.2)
def putE (es : List (NestedKey × Addr × V)) (k : NestedKey) (b : Addr) (v : V) : List (NestedKey × Addr × V) := if (lookE k es).isSome then es.map (fun p => if p.1 = k then (p.1, p.2.1, v) else p) else es ++ [(k, b, v)]
abbrev PE2 (es : List (NestedKey × Addr × V)) (xs : List (NestedKey × Addr × Value)) : Prop := Paired (fun (p : NestedKey × Addr × V) (q : NestedKey × Addr × Value) => p.1 = q.1 ∧ p.2.1 = q.2.1 ∧ RelV p.2.2 q.2.2) es xs
theorem look_atKey {k : NestedKey} : ∀ {es : List (NestedKey × Addr × V)} {xs : List (NestedKey × Addr × Value)}, PE2 es xs → match lookE k es with
    | some v => ∃ b u, atKey xs k = some (b, u) ∧ RelV v u
    | none => atKey xs k = none
  | _, _, .nil => rfl
  | (j, b, v) :: es, (j', b', u) :: xs, .cons r t => by
    obtain ⟨r1, r2, r3⟩ := r
    dsimp only at r1 r2 r3
    subst r1 r2
    by_cases e : j = k
    · subst e
      simp only [lookE, List.find?_cons, decide_true, Option.map_some, atKey]
      exact ⟨b, u, rfl, r3⟩
    · have ih := look_atKey (k := k) t
      simp only [lookE, List.find?_cons, decide_eq_false e, atKey] at ih ⊢
      exact ih
/-! ### the dict in the heap -/
/-- the dict at a: its entries (the empty one is made as a dict of any keys) -/
def DAt (K : PySem.W.Frag) (H : Hp) (a : Addr) (es : List (NestedKey × Addr × V)) : Prop := (H a = some (DDO es a) ∧ KeysAt K H es) ∨ (H a = some (.dK []) ∧ es = [])
/-- .. also one that is locked: to be read -/
def DRd (K : PySem.W.Frag) (H : Hp) (a : Addr) (es : List (NestedKey × Addr × V)) : Prop := DAt K H a es ∨ ((∃ o, H a = some (.frz o (DDO es a))) ∧ KeysAt K H es)
section
variable {X : Cx} {pins : List (Addr × Obj)} {σ : L2.St} {H : Hp} {s : Shared} {a : Addr} {es : List (NestedKey × Addr × V)}
theorem dd_obj (hz : Hz X.w) (I : Inv X pins σ H s) (x : ObjOk X.prog X.w H s.heap a (DDO es a)) (ks : KeysAt X.K H es) : es.length ≤ sizeLine ∧ (a == sysModules) = false ∧ ∃ xs, PE2 es xs ∧ s.heap.DictOfH (nestedKind X.prog X.w) a xs := by
  obtain ⟨⟨z, hd, xs, pr, o, esA, ep, h1, h2, h3, h4, h5⟩, _⟩ := x
  refine ⟨z, hd, xs, pr, o, esA, ep, h1, h2, h3, ?_, ?_, h5⟩
  · rw [h4]
    refine List.map_congr_left fun x _ => ?_
    rw [hz.hs]
    rfl
  · clear h4 h5
    have key : ∀ {es : List (NestedKey × Addr × V)} {xs : List (NestedKey × Addr × Value)}, PE2 es xs → KeysAt X.K H es → ∀ x ∈ xs, (nestedKind X.prog X.w).is s.heap x.1 x.2.1 := by
      intro es xs pr
      induction pr with
      | nil => intro _ x hx; cases hx
      | @cons p q es xs r t ih =>
        intro ks x hx
        rcases List.mem_cons.mp hx with rfl | hx
        · have := keyAt_is I (ks p List.mem_cons_self)
          rw [r.1, r.2.1] at this
          exact this
        · exact ih (fun p hp => ks p (List.mem_cons_of_mem _ hp)) x hx
    exact key pr ks
theorem dd_at (hz : Hz X.w) (I : Inv X pins σ H s) (d : DAt X.K H a es) : es.length ≤ sizeLine ∧ (a == sysModules) = false ∧ ∃ xs, PE2 es xs ∧ s.heap.DictOfH (nestedKind X.prog X.w) a xs := by
  rcases d with ⟨e, ks⟩ | ⟨e, rfl⟩
  · exact dd_obj hz I (I.hok a _ e) ks
  · obtain ⟨z, hd, vs, kv, o, es, ep, h1, h2, h3, h4, h5, h6⟩ := dk_of I.hok e
    refine ⟨Nat.zero_le _, hd, [], .nil, o, es, ep, h1, h2, h3, ?_, fun x hx => (nomatch hx), List.nodup_nil⟩
    have : vs = [] := by cases kv; rfl
    subst this
    cases hh : es.toList with
    | nil => rfl
    | cons x r => rw [hh] at h5; cases h5
theorem dd_rd (hz : Hz X.w) (I : Inv X pins σ H s) (d : DRd X.K H a es) : es.length ≤ sizeLine ∧ (a == sysModules) = false ∧ ∃ xs, PE2 es xs ∧ s.heap.DictOfH (nestedKind X.prog X.w) a xs := by
  rcases d with d | ⟨⟨o, e⟩, ks⟩
  · exact dd_at hz I d
  · have x : s.heap.get? a = some o ∧ ObjOk X.prog X.w H s.heap a (DDO es a) := I.hok a _ e
    exact dd_obj hz I x.2 ks
theorem dd_type (hz : Hz X.w) (I : Inv X pins σ H s) (d : DRd X.K H a es) : s.TypeIs (.ref a) "dict" ∧ (∀ b, Value.ref a = .ref b → ∃ ob, s.heap.get? b = some ob ∧ ob.dict = none) ∧ (a == sysModules) = false := by
  obtain ⟨_, hd, xs, _, dd⟩ := dd_rd hz I d
  refine ⟨dd.typeIs, fun b q => ?_, hd⟩
  cases q
  obtain ⟨ob, _, _, h1, h2, _⟩ := dd
  exact ⟨ob, h1, h2.2.1⟩
theorem room8 {A : Around} (hu : A.units + 65 < cLine) : (nestedKind X.prog X.w).room A.in1 := by
  show A.in1.units + 8 < cLine
  rw [Around.in1_units]
  omega
/-- d[k] -/
theorem d_getItemN {A : Around} {E : Value → Shared → Prop} {k : NestedKey} {b : Addr} {v : V} {Q : Value → Shared → Prop} (hz : Hz X.w) (hu : A.units + 65 < cLine) (I : Inv X pins σ H s) (da : DRd X.K H a es) (kb : KeyAt X.K H k b) (lv : lookE k es = some v)
    (h : ∀ w' s', Inv X pins σ H s' → RelV v w' → Q w' s') : wpAny (model X.prog X.w) A (getItem (.ref a) (.ref b)) Q E s := by
  obtain ⟨z, hd, xs, pr, dd⟩ := dd_rd hz I da
  have lk := look_atKey (k := k) pr
  rw [lv] at lk
  obtain ⟨b', u, e, ru⟩ := lk
  exact wpAny_getItem_heap (knd := nestedKind X.prog X.w) (room8 hu) (keyAt_is I kb) dd e (h _ _ (I.tok _) ru)
/-- k not in d -/
theorem d_notInN {A : Around} {E : Value → Shared → Prop} {k : NestedKey} {b : Addr} {Q : Value → Shared → Prop} (hz : Hz X.w) (hu : A.units + 65 < cLine) (I : Inv X pins σ H s) (da : DRd X.K H a es) (kb : KeyAt X.K H k b)
    (h : ∀ s', Inv X pins σ H s' → Q (.bool (!(lookE k es).isSome)) s') : wpAny (model X.prog X.w) A (compareOp .NotIn (.ref b) (.ref a)) Q E s := by
  obtain ⟨z, hd, xs, pr, dd⟩ := dd_rd hz I da
  refine wpAny_notIn_heap (knd := nestedKind X.prog X.w) (room8 hu) (keyAt_is I kb) hd dd ?_
  have lk := look_atKey (k := k) pr
  have e : (atKey xs k).isSome = (lookE k es).isSome := by
    cases h : lookE k es with
    | some v => rw [h] at lk; obtain ⟨b', u, e, _⟩ := lk; rw [e]; rfl
    | none => rw [h] at lk; rw [lk]; rfl
  rw [e]
  exact h _ (I.tok _)
end
/-! ### the mirror's dict and the heap's -/
section
variable {K : PySem.W.Frag} {g : G} {H : Hp} {st : Sto}
theorem lookN_ok (k : NestedKey) : ∀ {kvs : List (NestedKey × PV)} {es : List (NestedKey × Addr × V)}, RVD K g H kvs es → match lookN k kvs with
    | some x => ∃ v, lookE k es = some v ∧ RV K g H x v
    | none => lookE k es = none
  | _, _, .nil => rfl
  | _, _, .cons (k := j) (v := v) q d r l => by
    by_cases e : j = k
    · simp only [lookN, if_pos e]
      exact ⟨v, by simp only [lookE, List.find?_cons, decide_eq_true e, Option.map_some], r⟩
    · simp only [lookN, if_neg e]
      have ih := lookN_ok k l
      have e2 : ∀ b v es, lookE k ((j, b, v) :: es) = lookE k es := fun b v es => by simp only [lookE, List.find?_cons, decide_eq_false e]
      rw [e2]
      exact ih
theorem lookN_some (k : NestedKey) {kvs : List (NestedKey × PV)} {es : List (NestedKey × Addr × V)} (l : RVD K g H kvs es) : (lookN k kvs).isSome = (lookE k es).isSome := by
  have h := lookN_ok k l
  split at h
  · rename_i x e; obtain ⟨v, e2, _⟩ := h; rw [e, e2]; rfl
  · rename_i e; rw [e, h]; rfl
theorem RVD.length : ∀ {kvs : List (NestedKey × PV)} {es : List (NestedKey × Addr × V)}, RVD K g H kvs es → kvs.length = es.length
  | _, _, .nil => rfl
  | _, _, .cons _ _ _ l => by simp [l.length]
theorem RVD.put {k : NestedKey} {b : Addr} {x : PV} {v : V} (q : RV K g H (nkP k) (.ref b)) (d : k.depth ≤ 8) (r : RV K g H x v) {kvs : List (NestedKey × PV)} {es : List (NestedKey × Addr × V)} (l : RVD K g H kvs es) : RVD K g H (putN kvs k x) (putE es k b v) := by
  unfold putN putE
  rw [lookN_some k l]
  split
  · have : ∀ {kvs : List (NestedKey × PV)} {es : List (NestedKey × Addr × V)}, RVD K g H kvs es → RVD K g H (kvs.map fun p => if p.1 = k then (p.1, x) else p) (es.map fun p => if p.1 = k then (p.1, p.2.1, v) else p) := by
      intro kvs es l
      induction kvs generalizing es with
      | nil => cases l; exact .nil
      | cons p kvs ih =>
        cases l with
        | cons q d r' l =>
          rename_i j b' x' v' es'
          by_cases e : j = k
          · simp only [List.map_cons, if_pos e]; exact .cons q d r (ih l)
          · simp only [List.map_cons, if_neg e]; exact .cons q d r' (ih l)
    exact this l
  · have : ∀ {kvs : List (NestedKey × PV)} {es : List (NestedKey × Addr × V)}, RVD K g H kvs es → RVD K g H (kvs ++ [(k, x)]) (es ++ [(k, b, v)]) := by
      intro kvs es l
      induction kvs generalizing es with
      | nil => cases l; exact .cons q d r .nil
      | cons p kvs ih =>
        cases l with
        | cons q' d' r' l => exact .cons q' d' r' (ih l)
    exact this l
theorem asN_ok (s : StOk K g H st) {x : PV} {v : V} (r : RV K g H x v) {kvs : List (NestedKey × PV)} (e : asN st x = some kvs) : ∃ a es, v = .ref a ∧ (H a = some (DDO es a) ∨ ∃ o, H a = some (.frz o (DDO es a))) ∧ RVD K g H kvs es := by
  cases r with
  | dd f h l => cases e; exact ⟨_, _, rfl, .inl h, l⟩
  | ddf f h l => cases e; exact ⟨_, _, rfl, .inr ⟨_, h⟩, l⟩
  | ref hk =>
    rename_i k
    simp only [asN] at e
    split at e
    · rename_i ys q
      cases e
      obtain ⟨es, h, l⟩ := s.at_ k _ q
      exact ⟨_, es, rfl, .inl h, l⟩
    · cases e
  | _ => cases e
theorem DRd.of {K : PySem.W.Frag} {H : Hp} {a : Addr} {es : List (NestedKey × Addr × V)} (h : H a = some (DDO es a) ∨ ∃ o, H a = some (.frz o (DDO es a))) (k : KeysAt K H es) : DRd K H a es := h.elim (fun h => .inl (.inl ⟨h, k⟩)) fun h => .inr ⟨h, k⟩
/-- a key's tree is a key -/
theorem keyAt_of {x : PV} {v : V} (r : RV K g H x v) {k : NestedKey} (e : toTK x = some k) : ∃ b, v = .ref b ∧ RV K g H (nkP k) (.ref b) ∧ KeyAt K H k b := by
  obtain ⟨rfl, d, ks, rfl⟩ := toTK_ok e
  have r' := r
  simp only [nkP] at r'
  cases r' with
  | tup h l => exact ⟨_, rfl, r, ⟨g, r⟩, d⟩
end
/-! ### operators -/
section
variable {X : Cx}
def rInN (K : PySem.W.Frag) (neg : Bool) : R2 := fun x y H Q => ∃ a b es k, y = .ref a ∧ x = .ref b ∧ DRd K H a es ∧ KeyAt K H k b ∧ Q (.bl (if neg then !(lookE k es).isSome else (lookE k es).isSome)) H
theorem o_notInN (hz : Hz X.w) (hu : X.A.units + 65 < cLine) : OpR X (compareOp .NotIn) (rInN X.K true) := by
  intro pins s σ H x y v u Q I rx ry ⟨a, b, es, k, e1, e2, da, kb, q⟩
  subst e1 e2
  cases rx
  cases ry
  exact d_notInN hz hu I da kb fun s' I' => ⟨.bl _, H, I', rfl, q⟩
def rIxN (K : PySem.W.Frag) : R2 := fun x y H Q => ∃ a b es k v, x = .ref a ∧ y = .ref b ∧ DRd K H a es ∧ KeyAt K H k b ∧ lookE k es = some v ∧ Q v H
theorem ix_dictN (hz : Hz X.w) (hu : X.A.units + 65 < cLine) : IxR X (rIxN X.K) := by
  intro value slice pins s σ H x y v u Q I rx ry ⟨a, b, es, k, w, e1, e2, da, kb, lv, q⟩ hs
  subst e1 e2
  cases rx
  cases ry
  exact tail_any (dd_type hz I da).1 PySem.F.slot_dict_getitem.lookup (d_getItemN hz hu I da kb lv fun w' s' I' r' => ⟨w, H, I', r', q⟩) hs
theorem PSet.or {r r' : V → V → V → Hp → (Hp → Prop) → Prop} (h : PSet X r) (h' : PSet X r') : PSet X (fun o i v H Q => r o i v H Q ∨ r' o i v H Q) := by
  intro pins s σ H o i v ov iv u Q I ro ri rv q
  rcases q with q | q
  · exact h pins s σ H o i v ov iv u Q I ro ri rv q
  · exact h' pins s σ H o i v ov iv u Q I ro ri rv q
end
end Sim
set_option Elab.async false
set_option linter.all false
set_option maxRecDepth 100000
set_option maxHeartbeats 4000000
namespace Sim
open PySem PySem.Spec PyProof.Rows L2 HT
end Sim
namespace Sim
open PySem PySem.Spec PyProof.Rows L2
/-! ### x[::-1] of a list or of a tuple -/
end Sim
namespace Sim
open PySem PySem.Spec PyProof.Rows L2
variable [Tb] [Lm]
section
variable {K : PySem.W.Frag} {g : G} {H : Hp}
theorem toKey_ok {x : PV} {v : V} (r : RV K g H x v) {k : Key} (e : toKey x = some k) : v = kV k := by
  cases r with
  | int i => cases e; rfl
  | str i => cases e; rfl
  | _ => cases e
theorem lookK_ok (k : Key) : ∀ {kvs : List (Key × PV)} {ws : List (Key × V)}, RVK K g H kvs ws → match lookK k kvs with
    | some x => ∃ v, valV ws k = some v ∧ RV K g H x v
    | none => valV ws k = none
  | _, _, .nil => rfl
  | _, _, .cons (k := j) r l => by
    by_cases e : j = k
    · simp only [lookK, if_pos e]
      exact ⟨_, valV_pos e, r⟩
    · simp only [lookK, if_neg e]
      rw [valV_neg e]
      exact lookK_ok k l
theorem lookK_some (k : Key) {kvs : List (Key × PV)} {ws : List (Key × V)} (h : RVK K g H kvs ws) : (valV ws k).isSome = (lookK k kvs).isSome := by
  have := lookK_ok k h
  split at this
  · rename_i x e; obtain ⟨v, e2, _⟩ := this; rw [e, e2]; rfl
  · rename_i e; rw [e, this]; rfl
end
/-! ### in -/
def rInT (K : PySem.W.Frag) (neg : Bool) : R2 := fun x y H Q => ∃ d ds, Dp K H x d ∧ Dp K H y (.tuple ds) ∧ SeqAt.shaped d = true ∧ SeqAt.shaped (.tuple ds) = true ∧ Q (.bl (if neg then !ds.any fun z => PyData.eqv z d else ds.any fun z => PyData.eqv z d)) H
def rInDi (neg : Bool) : R2 := fun x y H Q => ∃ a o, y = .ref a ∧ DGet H a x o ∧ Q (.bl (if neg then !o.isSome else o.isSome)) H
section
variable {X : Cx}
theorem tup_room {A : Around} {d : PyData} {n : Nat} (h : SeqAt.shaped d = true) (hu : A.units + 65 < cLine) : A.units + 1 + min n d.depth < cLine := by
  have h1 := SeqAt.depth_of_shaped h
  have h2 : min n d.depth ≤ d.depth := Nat.min_le_right _ _
  omega
theorem o_notInT (hu : X.A.units + 65 < cLine) : OpR X (compareOp .NotIn) (rInT X.K true) := by
  intro pins s σ H x y v u Q I rx ry h
  obtain ⟨d, ds, hd, he, sd, se, q⟩ := h
  obtain ⟨as, r1⟩ := Dp.reads I d x v hd rx
  obtain ⟨bs, r2⟩ := Dp.reads I (.tuple ds) y u he ry
  exact SeqAt.notIn_tuple_reads r2 r1 (SeqAt.canLay_of_shaped se) (SeqAt.canLay_of_shaped sd) (tup_room sd hu) ⟨.bl _, H, I, rfl, q⟩
theorem o_notInDi (hu : X.A.units + 65 < cLine) : OpR X (compareOp .NotIn) (rInDi true) := by
  intro pins s σ H x y v u Q I rx ry ⟨a, o, e, dg, q⟩
  subst e
  cases ry
  exact d_notIn (by omega) I dg rx fun s' I' => ⟨.bl _, H, I', rfl, q⟩
abbrev rNin4 (K : PySem.W.Frag) : R2 := fun x y H Q => ((∃ (c : Nat) (z : Str), x = .str ⟨#[c]⟩ ∧ y = .str z ∧ Q (.bl (!decide (c ∈ z.cps.toList))) H) ∨ rInT K true x y H Q) ∨ (rInDi true x y H Q ∨ (rNotInD K x y H Q ∨ rInN K true x y H Q))
theorem o_notin (hz : Hz X.w) (hu : X.A.units + 65 < cLine) : OpR X (compareOp .NotIn) (rNin4 X.K) := (op_notIn_sign.or (o_notInT hu)).or ((o_notInDi hu).or ((op_notInD hu).or (o_notInN hz hu)))
variable {T : String → Value} {E : XK}
theorem str_one {c : Str} {n : Nat} (e : c.cps.toList = [n]) : c = ⟨#[n]⟩ := by
  obtain ⟨a⟩ := c
  congr 1
  apply Array.toList_inj.mp
  exact e
theorem s_inn (neg : Bool) {g : G} {H : Hp} {st : Sto} {x y : PV} {v u : V} {Q : VK} (s : StOk X.K g H st) (r1 : RV X.K g H x v) (r2 : RV X.K g H y u) (h : okR T X.K (rV X.K) g H (sInn neg x y st) Q E) :
    ((∃ (c : Nat) (z : Str), v = .str ⟨#[c]⟩ ∧ u = .str z ∧ Q (.bl (if neg then !decide (c ∈ z.cps.toList) else decide (c ∈ z.cps.toList))) H) ∨ rInT X.K neg v u H Q) ∨
      (rInDi neg v u H Q ∨ ((∃ d ds, Dp X.K H v d ∧ Dp X.K H u (.list ds) ∧ SeqAt.shaped d = true ∧ SeqAt.shaped (.list ds) = true ∧ Q (.bl (if neg then !ds.any fun z => PyData.eqv z d else ds.any fun z => PyData.eqv z d)) H) ∨ rInN X.K neg v u H Q)) := by
  unfold sInn at h
  split at h
  · cases r2
    split at h
    · cases r1
      split at h
      · rename_i e
        cases str_one e
        exact .inl (.inl ⟨_, _, rfl, rfl, okR.fin h s (.bl _)⟩)
      · exact h.elim
    · exact h.elim
  · rename_i ys
    split at h
    · rename_i d ds e1 e2
      split at h
      · rename_i hf
        rw [Bool.and_eq_true] at hf
        refine .inl (.inr ⟨d, ds, toDS_ok s r1 e1, ?_, hf.1, hf.2, okR.fin h s (.bl _)⟩)
        exact toD_ok r2 (by simp only [toD, e2]; rfl)
      · exact h.elim
    · exact h.elim
  · split at h
    · rename_i kvs e
      split at h
      · rename_i k ek
        obtain ⟨a, ws, rfl, hd, l⟩ := asD_ok s r2 e
        cases toKey_ok r1 ek
        exact .inr (.inl ⟨a, valV ws k, rfl, DGet.k hd, by rw [lookK_some k l]; exact okR.fin h s (.bl _)⟩)
      · cases kvs with
        | nil =>
          cases ek2 : toTK x with
          | none => rw [ek2] at h; exact h.elim
          | some k =>
            rw [ek2] at h
            obtain ⟨a, ws, rfl, hd, l⟩ := asD_ok s r2 e
            cases l
            obtain ⟨b, rfl, kq, ka⟩ := keyAt_of r1 ek2
            refine .inr (.inr (.inr ⟨a, b, [], k, rfl, rfl, .inl (.inr ⟨hd, rfl⟩), ka, ?_⟩))
            have : (if neg then !(lookE k []).isSome else (lookE k []).isSome) = neg := by cases neg <;> rfl
            rw [this]
            exact okR.fin h s (.bl _)
        | cons p r => exact h.elim
    · split at h
      · rename_i d ds e1 e2
        split at h
        · rename_i hf
          rw [Bool.and_eq_true] at hf
          refine .inr (.inr (.inl ⟨d, ds, toDS_ok s r1 e1, ?_, hf.1, hf.2, okR.fin h s (.bl _)⟩))
          obtain ⟨ys, e3, e4⟩ := Option.bind_eq_some_iff.mp e2
          obtain ⟨a, vs, rfl, hl, l⟩ := asL_ok s r2 e3
          exact .lst hl (toDs_ok l e4)
        · exact h.elim
      · split at h
        · rename_i kvs k ek1 ek2
          obtain ⟨a, es, rfl, hH, l⟩ := asN_ok s r2 ek1
          obtain ⟨b, rfl, kq, ka⟩ := keyAt_of r1 ek2
          exact .inr (.inr (.inr ⟨a, b, es, k, rfl, rfl, DRd.of hH (keysAt_of l), ka, by rw [← lookN_some k l]; exact okR.fin h s (.bl _)⟩))
        · exact h.elim
theorem s_notin : S2 T X.K E (rNin4 X.K) (sInn true) := fun _ _ _ _ _ _ _ _ s r1 r2 h => s_inn true s r1 r2 h
/-! ### x[i] -/
def rIxD : R2 := fun x y H Q => ∃ a v, x = .ref a ∧ DGet H a y (some v) ∧ Q v H
theorem ix_dict (hu : X.A.units + 65 < cLine) : IxR X rIxD := by
  intro value slice pins s σ H x y v u Q I rx ry ⟨a, w, e, dg, q⟩ hs
  subst e
  cases rx
  exact tail_any (dict_typeIs I dg) PySem.F.slot_dict_getitem.lookup (d_getItem (by omega) I dg ry fun w' s' I' r' => ⟨w, H, I', r', q⟩) hs
abbrev rIx5 (K : PySem.W.Frag) : R2 := fun x y H Q => rIx K x y H Q ∨ (rIxD x y H Q ∨ rIxN K x y H Q)
theorem o_ix (hz : Hz X.w) (hu : X.A.units + 65 < cLine) : IxR X (rIx5 X.K) := ix_seq.or ((ix_dict hu).or (ix_dictN hz hu))
theorem at_ok {K : PySem.W.Frag} {g : G} {H : Hp} {xs : List PV} {vs : List V} (l : RVL K g H xs vs) {i : Int} {x : PV} (e : atI xs i = some x) : ∃ v, atI vs i = some v ∧ RV K g H x v := by
  unfold atI at e ⊢
  obtain ⟨j, h1, h2⟩ := Option.bind_eq_some_iff.mp e
  obtain ⟨v, h3, r⟩ := l.get h2
  exact ⟨v, by rw [← l.length, h1]; exact h3, r⟩
theorem s_ix : S2 T X.K E (rIx5 X.K) sIx := by
  intro g H st x y v u Q s r1 r2 h
  unfold sIx at h
  split at h
  · cases r1
    split at h
    · cases r2
      split at h
      · rename_i c e
        split at h
        · rename_i hf
          exact .inl (.inr (.inr ⟨_, _, c, rfl, rfl, by rw [sizeLine_eq]; exact of_decide_eq_true hf, e, okR.fin h s (.str _)⟩))
        · exact h.elim
      · exact h.elim
    · exact h.elim
  · obtain ⟨a, vs, rfl, h1, l1⟩ := asT_ok r1 rfl
    split at h
    · cases r2
      split at h
      · rename_i w e
        obtain ⟨z, e2, rz⟩ := at_ok l1 e
        exact .inl (.inr (.inl ⟨a, vs, _, z, rfl, rfl, h1.t, e2, okR.fin h s rz⟩))
      · exact h.elim
    · exact h.elim
  · split at h
    · rename_i kvs e
      split at h
      · rename_i k ek
        split at h
        · rename_i w ew
          obtain ⟨a, ws, rfl, hd, l⟩ := asD_ok s r1 e
          cases toKey_ok r2 ek
          have := lookK_ok k l
          rw [ew] at this
          obtain ⟨z, e2, rz⟩ := this
          exact .inr (.inl ⟨a, z, rfl, by rw [← e2]; exact DGet.k hd, okR.fin h s rz⟩)
        · exact h.elim
      · exact h.elim
    · split at h
      · rename_i xs e
        obtain ⟨a, vs, rfl, hl, l⟩ := asL_ok s r1 e
        split at h
        · cases r2
          split at h
          · rename_i w ew
            obtain ⟨z, e2, rz⟩ := at_ok l ew
            exact .inl (.inl ⟨a, vs, _, z, rfl, rfl, hl, e2, okR.fin h s rz⟩)
          · exact h.elim
        · exact h.elim
      · split at h
        · rename_i kvs k ek1 ek2
          obtain ⟨a, es, rfl, hH, l⟩ := asN_ok s r1 ek1
          obtain ⟨b, rfl, kq, ka⟩ := keyAt_of r2 ek2
          split at h
          · rename_i w ew
            have := lookN_ok k l
            rw [ew] at this
            obtain ⟨z, e2, rz⟩ := this
            exact .inr (.inr ⟨a, b, es, k, z, rfl, rfl, DRd.of hH (keysAt_of l), ka, e2, okR.fin h s rz⟩)
          · exact h.elim
        · exact h.elim
end
/-! ### slices -/
def cutP (xs : List PV) (lo hi : Option Int) : List PV := (xs.drop (HT.sIx xs.length 0 lo)).take (HT.sIx xs.length xs.length hi - HT.sIx xs.length 0 lo)
abbrev MO' := Lo → Sto → Res (Option Int)
def oNone : MO' := fun _ st => .ok none st
def oSome (m : M) : MO' := fun env st => (m env st).bind fun x s1 => match x with
  | .int i => .ok (some i) s1
  | _ => .bad
def sSlice (x : PV) (lo hi : Option Int) (st : Sto) : Res PV := match x with
  | .tup xs => .ok (.tup (cutP xs lo hi)) st
  | x => match asL st x with
    | some xs => .ok (.lst (cutP xs lo hi)) st
    | none => .bad
def mSlice (a : M) (lo hi : MO') : M := fun env st => (a env st).bind fun x s1 => (lo env s1).bind fun l s2 => (hi env s2).bind fun u s3 => sSlice x l u s3
section
variable {X : Cx} {T : String → Value} {E : XK} {e : Expr} {m : M} {ml mu : MO'} {lo hi : Option Expr} {pos p2 : Pos}
abbrev OX (X : Cx) (T : String → Value) (E : XK) (e : Option Expr) (m : MO') : Prop := PO X e (fun σ H Q => ∃ g st env, StOk X.K g H st ∧ EnvOk X.K g H env σ ∧ okR T X.K (fun _ _ (a b : Option Int) => a = b) g H (m env st) Q E)
theorem po_imp {e : Option Expr} {t t' : TO} (h : PO X e t) (i : ∀ σ H Q, t' σ H Q → t σ H Q) : PO X e t' := ⟨fun pins s σ H Q I q => h.run pins s σ H Q I (i σ H Q q)⟩
theorem x_onone : OX X T E none oNone := po_imp po_none fun σ H Q ⟨g, st, env, s, en, h⟩ => okR.fin h s rfl
theorem x_osome {e : Expr} (ha : EX X T E e m) : OX X T E (some e) (oSome m) := po_imp (po_some ha) fun σ H Q ⟨g, st, env, s, en, h⟩ => tv_of s en h fun g1 H1 st1 x v e1 s1 en1 r1 h1 => by
  cases x with
  | int i => cases r1; exact ⟨i, rfl, okR.fin h1 s1 rfl⟩
  | _ => exact h1.elim
theorem cut_ok {K : PySem.W.Frag} {g : G} {H : Hp} {xs : List PV} {vs : List V} (l : RVL K g H xs vs) (lo hi : Option Int) : RVL K g H (cutP xs lo hi) (cutV vs lo hi) := by
  unfold cutP cutV
  rw [← l.length]
  exact (l.drop _).take _
abbrev rSl2 (K : PySem.W.Frag) : V → Option Int → Option Int → Hp → VK → Prop := fun x lo hi H Q => rSlN K x lo hi H Q ∨ rSlL K x lo hi H Q
theorem o_slice : SlR X (rSl2 X.K) := sl_tupN.or sl_list
theorem s_slice {g : G} {H : Hp} {st : Sto} {x : PV} {v : V} {lo hi : Option Int} {Q : VK} (s : StOk X.K g H st) (r : RV X.K g H x v) (h : okR T X.K (rV X.K) g H (sSlice x lo hi st) Q E) : rSl2 X.K v lo hi H Q := by
  unfold sSlice at h
  split at h
  · rename_i xs
    obtain ⟨a, vs, rfl, h1, l1⟩ := asT_ok r rfl
    refine .inl ⟨a, vs, rfl, h1.t, fun q => ?_, fun _ => giveT s (cut_ok l1 lo hi) h⟩
    have e : cutP xs lo hi = xs := by
      unfold cutP
      rw [l1.length, q.1, q.2, List.drop_zero, Nat.sub_zero, ← l1.length, List.take_length]
    rw [e] at h
    exact okR.fin h s r
  · split at h
    · rename_i xs e
      obtain ⟨a, vs, rfl, h1, l1⟩ := asL_ok s r e
      exact .inr ⟨a, vs, rfl, h1, giveF s (cut_ok l1 lo hi) h⟩
    · exact h.elim
theorem x_slice (ha : EX X T E e m) (hl : OX X T E lo ml) (hu : OX X T E hi mu) : EX X T E (.Subscript e (.Slice lo hi none p2) pos) (mSlice m ml mu) :=
  pe_imp (pe_slice o_slice ha hl hu) fun σ H Q ⟨g, st, env, s, en, h⟩ => tv_of s en h fun g1 H1 st1 x v e1 s1 en1 r1 h1 => ⟨g1, st1, env, s1, en1, h1.step.imp fun l H2 ⟨g2, st2, l', e2, s2, r2, h2⟩ => by
    subst r2
    exact ⟨g2, st2, env, s2, en1.mono e2, h2.step.imp fun u H3 ⟨g3, st3, u', e3, s3, r3, h3⟩ => by
      subst r3
      exact s_slice s3 (r1.mono (e2.trans e3)) h3⟩⟩
end
end Sim
set_option Elab.async false
set_option linter.all false
set_option maxRecDepth 100000
set_option maxHeartbeats 4000000
namespace Sim
open PySem PySem.Spec PyProof.Rows L2 RZ
variable [Tb] [Lm]
/-! ### targets -/
inductive Tgt where
  | one (i : Nat) | many (is : List Nat)
def setMany : List Nat → List PV → Lo → Lo
  | i :: is, x :: xs, env => setMany is xs (env.set i (some x))
  | _, _, env => env
def Tgt.run : Tgt → PV → Lo → Option Lo
  | .one i, x, env => some (env.set i (some x))
  | .many is, .tup xs, env => if xs.length = is.length then some (setMany is xs env) else none
  | .many is, .wtp xs, env => if xs.length = is.length then some (setMany is xs env) else none
  | .many _, _, _ => none
def Tgt.slots : Tgt → List Nat
  | .one i => [i]
  | .many is => is
def gMany : List Nat → TGs
  | [] => gNil
  | i :: is => gCons (gName i) (gMany is)
def tgR (K : PySem.W.Frag) : Tgt → TG
  | .one i => gName i
  | .many is => gTup K is.length (gMany is)
theorem wipe_set {σ : L2.St} {i : Nat} {x : Option V} : ∀ {vs : List Nat}, i ∈ vs → wipe (σ.set i x) vs = wipe σ vs
  | v :: vs, h => by
    unfold wipe
    by_cases e : i ∈ vs
    · rw [wipe_set e]
    · have e2 : i = v := by
        rcases List.mem_cons.mp h with z | z
        · exact z
        · exact absurd z e
      subst e2
      have q : ∀ (us : List Nat), i ∉ us → wipe (σ.set i x) us = (wipe σ us).set i x := by
        intro us
        induction us with
        | nil => intro _; rfl
        | cons u us ih =>
          intro hn
          have h1 : i ≠ u := fun z => hn (z ▸ List.mem_cons_self)
          have h2 : i ∉ us := fun z => hn (List.mem_cons_of_mem _ z)
          show (wipe (σ.set i x) us).set u none = ((wipe σ us).set u none).set i x
          rw [ih h2, List.set_comm _ _ h1]
      rw [q vs e, List.set_set]
theorem many_ok {K : PySem.W.Frag} {g : G} {H : Hp} : ∀ (is : List Nat) {xs : List PV} {vs : List V} {env : Lo} {σ : L2.St} {Q : L2.St → Hp → Prop}, EnvOk K g H env σ → RVL K g H xs vs → xs.length = is.length →
    (∀ σ', EnvOk K g H (setMany is xs env) σ' → (∀ us : List Nat, (∀ i ∈ is, i ∈ us) → wipe σ' us = wipe σ us) → Q σ' H) → gMany is vs σ H Q
  | [], [], _, env, σ, Q, en, r, hl, q => by
    cases r
    exact ⟨rfl, q σ en fun _ _ => rfl⟩
  | i :: is, x :: xs, _, env, σ, Q, en, r, hl, q => by
    cases r with
    | cons r l =>
      refine ⟨_, _, rfl, ?_⟩
      refine many_ok is (en.set r i) l (by simpa using hl) fun σ' en' w => q σ' en' fun us hu => ?_
      rw [w us fun j hj => hu j (List.mem_cons_of_mem _ hj), wipe_set (hu i List.mem_cons_self)]
theorem tg_ok {K : PySem.W.Frag} {g : G} {H : Hp} {t : Tgt} {x : PV} {v : V} {env env' : Lo} {σ : L2.St} {Q : L2.St → Hp → Prop} (en : EnvOk K g H env σ) (r : RV K g H x v) (e : t.run x env = some env')
    (q : ∀ σ', EnvOk K g H env' σ' → (∀ us : List Nat, (∀ i ∈ t.slots, i ∈ us) → wipe σ' us = wipe σ us) → Q σ' H) : tgR K t v σ H Q := by
  cases t with
  | one i =>
    cases e
    exact q _ (en.set r i) fun us hu => wipe_set (hu i List.mem_cons_self)
  | many is =>
    cases x with
    | tup xs =>
      simp only [Tgt.run] at e
      split at e
      · rename_i hl
        cases e
        cases r with
        | tup h l =>
          exact ⟨_, _, rfl, h.t, by rw [← l.length]; exact hl, many_ok is en l hl q⟩
      · cases e
    | wtp xs =>
      simp only [Tgt.run] at e
      split at e
      · rename_i hl
        cases e
        cases r with
        | wtp h l =>
          exact ⟨_, _, rfl, h, by rw [← l.length]; exact hl, many_ok is en l hl q⟩
      · cases e
    | _ => cases e
abbrev GX (X : Cx) (e : Expr) (t : Tgt) : Prop := PG X e (tgR X.K t)
abbrev GXs (X : Cx) (es : List Expr) (is : List Nat) : Prop := PGs X es (gMany is)
section
variable {X : Cx} {pos : Pos}
theorem g_one {i : Nat} {x : Str} (hN : X.N.Nodup) (hi : X.N[i]? = some x) (hx : Loc X.env.scope x) (hf : X.fn x = true ∨ X.env.scope.names.lookup x = some .local) : GX X (.Name x pos) (.one i) := pg_name hN hi hx hf
theorem g_nil : GXs X [] [] := pgs_nil
theorem g_cons {e : Expr} {es : List Expr} {i : Nat} {is : List Nat} (h : GX X e (.one i)) (r : GXs X es is) (hs : (assignEach (e :: es) X.env).map (·.2) = assign e X.env :: (assignEach es X.env).map (·.2) := by rfl) : GXs X (e :: es) (i :: is) := pgs_cons h r hs
theorem g_many {es : List Expr} {k : Nat} {is : List Nat} (hc : X.calm = true) (h : GXs X es is) (hn : (assignEach es X.env).length = is.length := by rfl) (hst : (assignEach es X.env).findIdx? (·.1) = none := by rfl) : GX X (.Tuple es k pos) (.many is) := pg_tup hc h hn hst
end
/-! ### what is walked -/
def Walks (K : PySem.W.Frag) (J : It) (xs : List PV) (g0 : G) (H0 : Hp) : Prop := ∀ g H st, Ext g0 H0 g H → StOk K g H st → ∀ i,
  (xs.length ≤ i → J.stop i H) ∧ ∀ x, xs[i]? = some x → J.go i H ∧ ∀ v H', J.yld i H v H' → Ext g H g H' ∧ StOk K g H' st ∧ RV K g H' x v
/-- what stands still for a walk -/
def asW : PV → Option (List PV)
  | .tup xs => some xs
  | .lst xs => some xs
  | .rol xs => some xs
  | _ => none
def signs (z : Str) : List PV := z.cps.toList.map fun c => .str ⟨#[c]⟩
def rangeP (lo : Int) (n : Nat) : List PV := (List.range n).map fun i => .int (lo + (i : Nat))
abbrev iL := ML
def sIter : PV → Sto → Res (List PV) := fun x st => match x with
  | .str z => .ok (signs z) st
  | x => match asW x with
    | some xs => .ok xs st
    | none => .bad
def mIter (m : M) : iL := fun env st => (m env st).bind sIter
def mRange1 (m : M) : iL := fun env st => (m env st).bind fun x s => match x with
  | .int n => if decide (-(2 ^ 62) ≤ n) && decide (n < 2 ^ 62) then .ok (rangeP 0 n.toNat) s else .bad
  | _ => .bad
def zipP : List PV → List PV → List PV
  | x :: xs, y :: ys => .wtp [x, y] :: zipP xs ys
  | _, _ => []
def asFL : PV → Option (List PV)
  | .lst xs => some xs
  | .rol xs => some xs
  | _ => none
def mZip (m m' : M) : iL := fun env st => (m env st).bind fun x s => (m' env s).bind fun y s2 => match x, y with
  | .tup xs, .tup ys => .ok (zipP xs ys) s2
  | x, y => match asFL x, asFL y with
    | some xs, some ys => .ok (zipP xs ys) s2
    | _, _ => .bad
section
variable (T : String → Value) (K : PySem.W.Frag) (E : XK)
def TI' (m : iL) : TI := fun σ H R => ∃ g st env, StOk K g H st ∧ EnvOk K g H env σ ∧ okR T K (fun g H xs J => Walks K J xs g H) g H (m env st) R E
end
section
variable {K : PySem.W.Frag} {g : G} {H : Hp}
theorem walks_T {a : Addr} {xs : List PV} {vs : List V} (h : SqT K H a vs) (l : RVL K g H xs vs) : Walks K (Itt K a) xs g H := by
  intro g1 H1 st e s i
  have h1 := e.seqT h
  have l1 := l.mono e
  refine ⟨fun hi => ⟨vs, h1, by rw [← l1.length]; exact hi⟩, fun x hx => ?_⟩
  obtain ⟨v, hv, r⟩ := l1.get hx
  refine ⟨⟨vs, v, h1, hv⟩, fun w H' ⟨e1, e2⟩ => ?_⟩
  subst e1
  have := e2 vs h1
  rw [hv] at this; cases this
  exact ⟨Ext.refl _ _, s, r⟩
theorem walks_L {a : Addr} {xs : List PV} {vs : List V} (h : ∀ g' H', Ext g H g' H' → SqL K H' a vs) (l : RVL K g H xs vs) : Walks K (Itl K a) xs g H := by
  intro g1 H1 st e s i
  have h1 := h g1 H1 e
  have l1 := l.mono e
  refine ⟨fun hi => ⟨vs, h1, by rw [← l1.length]; exact hi⟩, fun x hx => ?_⟩
  obtain ⟨v, hv, r⟩ := l1.get hx
  refine ⟨⟨vs, v, h1, hv⟩, fun w H' ⟨e1, e2⟩ => ?_⟩
  subst e1
  have := e2 vs h1
  rw [hv] at this; cases this
  exact ⟨Ext.refl _ _, s, r⟩
theorem asFL_ok {x : PV} {v : V} (r : RV K g H x v) {xs : List PV} (e : asFL x = some xs) : ∃ a vs, v = .ref a ∧ (∀ g' H', Ext g H g' H' → SqL K H' a vs) ∧ RVL K g H xs vs := by
  cases r with
  | lst f h l => cases e; exact ⟨_, _, rfl, fun g' H' e => .of ((e.F _ f).2.trans h), l⟩
  | rol f h l => cases e; exact ⟨_, _, rfl, fun g' H' e => .inl (.inr ⟨_, (e.F _ f).2.trans h⟩), l⟩
  | rolK h h2 l => cases e; exact ⟨_, _, rfl, fun g' H' e => h H', l⟩
  | _ => cases e
theorem walks_S (z : Str) : Walks K (Its z) (signs z) g H := by
  intro g1 H1 st e s i
  refine ⟨fun hi => ?_, fun x hx => ?_⟩
  · show z.cps.size ≤ i
    simpa [signs] using hi
  · simp only [signs, List.getElem?_map, Option.map_eq_some_iff] at hx
    obtain ⟨c, hc, rfl⟩ := hx
    have hc' : z.cps[i]? = some c := by simpa using hc
    refine ⟨(Array.getElem?_eq_some_iff.mp hc').1, fun v H' ⟨e1, d, hd, e2⟩ => ?_⟩
    subst e1 e2
    rw [hc'] at hd; cases hd
    exact ⟨Ext.refl _ _, s, .str _⟩
theorem walks_R (lo : Int) (n : Nat) : Walks K (Itr lo n) (rangeP lo n) g H := by
  intro g1 H1 st e s i
  refine ⟨fun hi => ?_, fun x hx => ?_⟩
  · show n ≤ i
    simpa [rangeP] using hi
  · simp only [rangeP, List.getElem?_map, Option.map_eq_some_iff] at hx
    obtain ⟨c, hc, rfl⟩ := hx
    obtain ⟨h1, h2⟩ := List.getElem?_eq_some_iff.mp hc
    simp at h1 h2
    subst h2
    refine ⟨h1, fun v H' ⟨e1, e2⟩ => ?_⟩
    subst e1 e2
    exact ⟨Ext.refl _ _, s, .int _⟩
end
section
variable {X : Cx} {T : String → Value} {E : XK} {tg l : Expr} {m m' : M} {p pos : Pos}
abbrev IX (X : Cx) (T : String → Value) (E : XK) (tg l : Expr) (m : iL) : Prop := PI X tg l (TI' T X.K E m)
theorem pi_imp {t t' : TI} (h : PI X tg l t) (i : ∀ σ H R, t' σ H R → t σ H R) : PI X tg l t' := ⟨fun pins s σ H R I q => h.run pins s σ H R I (i σ H R q)⟩
/-- over a list, a tuple, a text: what it is, is known ahead -/
theorem i_any (hl : EX X T E l m) : IX X T E tg l (mIter m) := by
  refine ⟨fun pins s σ H R I ⟨g, st, env, so, en, h⟩ => ?_⟩
  cases q : m env st with
  | bad => simp only [mIter, q] at h; exact h.elim
  | exc n fs s1 =>
    simp only [mIter, q, Res.bind_exc] at h
    refine (pi_tup hl).run pins s σ H R I ⟨g, st, env, so, en, ?_⟩
    rw [q]
    exact h
  | ok x s1 =>
    simp only [mIter, q, Res.bind_ok, sIter] at h
    split at h
    · refine (pi_str hl).run pins s σ H R I ⟨g, st, env, so, en, ?_⟩
      rw [q]
      intro g1 H1 v e1 so1 r1
      cases r1
      exact ⟨_, rfl, h g1 H1 _ e1 so1 (walks_S _)⟩
    · split at h
      · rename_i xs ex
        cases x with
        | tup ys =>
          cases ex
          refine (pi_tup hl).run pins s σ H R I ⟨g, st, env, so, en, ?_⟩
          rw [q]
          intro g1 H1 v e1 so1 r1
          cases r1 with
          | tup hh ll => exact ⟨_, rfl, ⟨_, hh.t⟩, h g1 H1 _ e1 so1 (walks_T hh.t ll)⟩
        | lst ys =>
          cases ex
          refine (pi_list hl).run pins s σ H R I ⟨g, st, env, so, en, ?_⟩
          rw [q]
          intro g1 H1 v e1 so1 r1
          obtain ⟨a, vs, rfl, hh, ll⟩ := asFL_ok r1 rfl
          exact ⟨_, rfl, ⟨_, hh g1 H1 (Ext.refl _ _)⟩, h g1 H1 _ e1 so1 (walks_L hh ll)⟩
        | rol ys =>
          cases ex
          refine (pi_list hl).run pins s σ H R I ⟨g, st, env, so, en, ?_⟩
          rw [q]
          intro g1 H1 v e1 so1 r1
          obtain ⟨a, vs, rfl, hh, ll⟩ := asFL_ok r1 rfl
          exact ⟨_, rfl, ⟨_, hh g1 H1 (Ext.refl _ _)⟩, h g1 H1 _ e1 so1 (walks_L hh ll)⟩
        | _ => cases ex
      · exact h.elim
theorem i_range1 {a : Expr} (hg : Gl X "range") (hm : X.mg "range" = none) (ha : EX X T E a m) (na : starEach (a :: []) X.env = (false, eval a X.env) :: starEach [] X.env := by rfl) (hs : starEach [a] X.env = [(false, eval a X.env)] := by rfl) : IX X T E tg (.Call (.Name "range" p) [a] [] pos) (mRange1 m) :=
  pi_imp (pi_range1 hg hm (x_cons ha x_nil na) hs) fun σ H R ⟨g, st, env, s, en, h⟩ => by
    have hh : okR T X.K (fun g H xs J => Walks X.K J xs g H) g H ((mCons m mNil env st).bind fun xs s => match xs with
      | [.int n] => if decide (-(2 ^ 62) ≤ n) && decide (n < 2 ^ 62) then .ok (rangeP 0 n.toNat) s else .bad
      | _ => .bad) R E := by
      simp only [mRange1] at h
      simp only [mCons, mNil]
      cases q : m env st with
      | ok x s1 => rw [q] at h; cases x <;> exact h
      | exc n fs s1 => rw [q] at h; exact h
      | bad => rw [q] at h; exact h
    refine tl_of s en hh fun g1 H1 st1 xs vs e1 s1 en1 r1 h1 => ?_
    split at h1
    · split at h1
      · rename_i n hf
        simp only [Bool.and_eq_true, decide_eq_true_eq] at hf
        cases r1 with
        | cons r l => cases r; cases l; exact ⟨n, rfl, hf.1, hf.2, okR.fin h1 s1 (walks_R 0 _)⟩
      · exact h1.elim
    · exact h1.elim
end
end Sim
set_option Elab.async false
set_option linter.all false
set_option maxRecDepth 100000
set_option maxHeartbeats 4000000
namespace Sim
open PySem PySem.Spec PyProof.Rows L2
variable [Tb] [Lm]
/-! ### statements -/
def cNil : MS := fun env st => .nx env st
def cSeq (a b : MS) : MS := fun env st => match a env st with
  | .nx e s => b e s
  | r => r
def cSet (t : Tgt) (m : M) : MS := fun env st => match m env st with
  | .ok x s => match t.run x env with
    | some e => .nx e s
    | none => .bad
  | .exc n fs s => .exc n fs s
  | .bad => .bad
def cExpr (m : M) : MS := fun env st => match m env st with
  | .ok _ s => .nx env s
  | .exc n fs s => .exc n fs s
  | .bad => .bad
def cRet (m : M) : MS := fun env st => match m env st with
  | .ok x s => .rt x s
  | .exc n fs s => .exc n fs s
  | .bad => .bad
def cRetN : MS := fun _ st => .rt .non st
def cIf (c : MB) (a b : MS) : MS := fun env st => match c env st with
  | .ok k s => if k = true then a env s else b env s
  | .exc n fs s => .exc n fs s
  | .bad => .bad
def cBreak : MS := fun env st => .bk env st
def cCont : MS := fun env st => .ct env st
def forGo (t : Tgt) (body : MS) : List PV → Lo → Sto → Out
  | [], env, st => .nx env st
  | x :: xs, env, st => match t.run x env with
    | none => .bad
    | some env1 => match body env1 st with
      | .nx e s => forGo t body xs e s
      | .ct e s => forGo t body xs e s
      | .bk e s => .nx e s
      | r => r
def cFor (it : iL) (t : Tgt) (body : MS) : MS := fun env st => match it env st with
  | .ok xs s => forGo t body xs env s
  | .exc n fs s => .exc n fs s
  | .bad => .bad
/-- x[i] = v, a list of the store -/
def sSetIx (o i v : PV) (st : Sto) : Res Unit := match o with
  | .ref k => match st[k]? with
    | some (.lst xs) => match i with
      | .int j => match ixN xs.length j with
        | some n => .ok () (st.set k (.lst (xs.set n v)))
        | none => .bad
      | _ => .bad
    | _ => .bad
  | _ => .bad
def cSetIx (o i v : M) : MS := fun env st => match (v env st).bind fun x s1 => (o env s1).bind fun y s2 => (i env s2).bind fun z s3 => sSetIx y z x s3 with
  | .ok _ s => .nx env s
  | .exc n fs s => .exc n fs s
  | .bad => .bad
section
variable {X : Cx} {T : String → Value} {E : XK} {e : Expr} {m : M} {st : Stmt} {rest : List Stmt} {a b : MS} {pos : Pos}
abbrev SX (X : Cx) (T : String → Value) (E : XK) (s : Stmt) (m : MS) : Prop := PS X s (TSt T X.K E m)
abbrev SXs (X : Cx) (T : String → Value) (E : XK) (s : List Stmt) (m : MS) : Prop := PSs X s (TSt T X.K E m)
theorem s_nil : SXs X T E [] cNil := pss_imp pss_nil fun D σ H ⟨g, st, env, s, en, h⟩ => h g H σ (Ext.refl _ _) s en
theorem s_cons (h1 : SX X T E st a) (h2 : SXs X T E rest b) : SXs X T E (st :: rest) (cSeq a b) := by
  refine pss_imp (pss_cons h1 h2) fun D σ H ⟨g, st, env, s, en, h⟩ => ⟨g, st, env, s, en, ?_⟩
  simp only [cSeq] at h
  cases q : a env st with
  | nx e s' => rw [q] at h; exact fun g' H' σ' e1 s1 en1 => ⟨g', s', e, s1, en1, okS.ext h e1⟩
  | rt x s' => rw [q] at h; exact h
  | bk e s' => rw [q] at h; exact h
  | ct e s' => rw [q] at h; exact h
  | exc n fs s' => rw [q] at h; exact h
  | bad => rw [q] at h; exact h
theorem s_one (h1 : SX X T E st a) : SXs X T E [st] a := pss_one h1
theorem s_expr (he : EX X T E e m) (hs : swapsWith e none pos.line X.env = pure false := by rfl) : SX X T E (.Expr e pos) (cExpr m) := by
  refine ps_imp (ps_expr he hs) fun D σ H ⟨g, st, env, s, en, h⟩ => ⟨g, st, env, s, en, ?_⟩
  simp only [cExpr] at h
  cases q : m env st with
  | ok x s' => rw [q] at h; exact fun g' H' v e1 s1 _ => h g' H' σ e1 s1 (en.mono e1)
  | exc n fs s' => rw [q] at h; exact h
  | bad => rw [q] at h; exact h
theorem s_ret (he : EX X T E e m) : SX X T E (.Return (some e) pos) (cRet m) := by
  refine ps_imp (ps_ret he) fun D σ H ⟨g, st, env, s, en, h⟩ => ⟨g, st, env, s, en, ?_⟩
  simp only [cRet] at h
  cases q : m env st with
  | ok x s' => rw [q] at h; exact fun g' H' v e1 s1 r1 => h g' H' v e1 s1 r1
  | exc n fs s' => rw [q] at h; exact h
  | bad => rw [q] at h; exact h
theorem s_if {c : Expr} {as bs : List Stmt} {mc : MB} (hc : TX X T E c mc) (ha : SXs X T E as a) (hb : SXs X T E bs b) : SX X T E (.If c as bs pos) (cIf mc a b) := by
  refine ps_imp (ps_if hc ha hb) fun D σ H ⟨g, st, env, s, en, h⟩ => ⟨g, st, env, s, en, ?_⟩
  simp only [cIf] at h
  cases q : mc env st with
  | ok k s' =>
    rw [q] at h
    intro g' H' k' e1 s1 ek
    subst ek
    cases k with
    | true => rw [if_pos rfl]; exact ⟨g', s', env, s1, en.mono e1, okS.ext (by simpa using h) e1⟩
    | false => rw [if_neg Bool.false_ne_true]; exact ⟨g', s', env, s1, en.mono e1, okS.ext (by simpa using h) e1⟩
  | exc n fs s' => rw [q] at h; exact h
  | bad => rw [q] at h; exact h
theorem set_core {t : Tgt} {D : Ends} {σ : L2.St} {H : Hp} {tg : TG} (htg : tg = tgR X.K t) (h : TSt T X.K E (cSet t m) D σ H) : TV T X.K E m σ H fun x H1 => tg x σ H1 D.nx := by
  subst htg
  obtain ⟨g, st, env, s, en, h⟩ := h
  refine ⟨g, st, env, s, en, ?_⟩
  simp only [cSet] at h
  cases q : m env st with
  | ok x s' =>
    rw [q] at h
    dsimp only at h
    intro g' H' v e1 s1 r1
    cases q2 : t.run x env with
    | none => rw [q2] at h; exact h.elim
    | some env' =>
      rw [q2] at h
      exact tg_ok (en.mono e1) r1 q2 fun σ' en' _ => h g' H' σ' e1 s1 en'
  | exc n fs s' => rw [q] at h; exact h
  | bad => rw [q] at h; exact h
theorem s_set {i : Nat} {x : Str} {pos' : Pos} (hN : X.N.Nodup) (hi : X.N[i]? = some x) (hx : Loc X.env.scope x) (he : EX X T E e m) (hs : swapsWith e (some (.Name x pos')) pos.line X.env = pure false := by rfl)
    (hf : X.fn x = true ∨ X.env.scope.names.lookup x = some .local := by first | exact .inl rfl | exact .inr rfl) : SX X T E (.Assign [.Name x pos'] e pos) (cSet (.one i) m) :=
  ps_imp (ps_set hN hi hx he hs hf) fun D σ H h => set_core rfl h
theorem s_asg {tg : Expr} {t : Tgt} (he : EX X T E e m) (hg : GX X tg t) (hs : swapsWithSole [tg] e pos.line X.env = pure false := by rfl) (hw : swappedStores [tg] e X.env = pure none := by rfl)
    (h1 : (assignEach [tg] X.env).map (·.2) = [assign tg X.env] := by rfl) : SX X T E (.Assign [tg] e pos) (cSet t m) :=
  ps_imp (ps_asg he hg hs hw h1) fun D σ H h => set_core rfl h
theorem s_setIx {o i : Expr} {mo mi : M} {pos' : Pos} (hv : EX X T E e m) (ho : EX X T E o mo) (hi : EX X T E i mi) (hs : swapsWithSole [.Subscript o i pos'] e pos.line X.env = pure false := by rfl) (hw : swappedStores [.Subscript o i pos'] e X.env = pure none := by rfl)
    (h1 : (assignEach [.Subscript o i pos'] X.env).map (·.2) = [assign (.Subscript o i pos') X.env] := by rfl)
    (hb : ∀ v, assign (.Subscript o i pos') X.env v = (do
      let ov ← holding [v] (eval o X.env)
      let iv ← holding [v, ov] (eval i X.env)
      standAt pos'
      holding [v, ov, iv] (setItem ov iv v)
      release [v, ov, iv] []) := by intro _; rfl) : SX X T E (.Assign [.Subscript o i pos'] e pos) (cSetIx mo mi m) := by
  refine ps_imp (ps_asg hv (pg_sub ho hi set_list hb) hs hw h1) fun D σ H ⟨g, st, env, s, en, h⟩ => ?_
  have hh : okR T X.K (fun g H _ (_ : Unit) => EnvOk X.K g H env σ) g H ((m env st).bind fun x s1 => (mo env s1).bind fun y s2 => (mi env s2).bind fun z s3 => sSetIx y z x s3) (fun _ H' => D.nx σ H') E := by
    simp only [cSetIx] at h
    generalize hq : ((m env st).bind fun x s1 => (mo env s1).bind fun y s2 => (mi env s2).bind fun z s3 => sSetIx y z x s3) = r at h
    cases r with
    | ok u s' => exact fun g' H' _ e1 s1 en1 => h g' H' σ e1 s1 en1
    | exc n fs s' => exact h
    | bad => exact h
  refine tv_of s en hh fun g1 H1 st1 x v e1 s1 en1 r1 h1 => tv_of s1 en1 h1 fun g2 H2 st2 y w e2 s2 en2 r2 h2 => tv_of s2 en2 h2 fun g3 H3 st3 z u e3 s3 en3 r3 h3 => ?_
  cases y with
  | ref k =>
    simp only [sSetIx] at h3
    split at h3
    · rename_i xs q
      split at h3
      · split at h3
        · rename_i n hn
          cases r3
          cases r2 with
          | ref hk =>
            have ef : g3.f k = g2.f k := e3.f k hk
            obtain ⟨vs, hH, l⟩ := s3.at_ k _ q
            have xe := ext_write (o := .lst (vs.set n v)) s3 q rfl
            have rx := (r1.mono (e2.trans e3))
            refine ⟨g3.f k, vs, _, n, by rw [ef], rfl, hH, by rw [← l.length]; exact hn, ?_⟩
            exact h3 g3 _ () xe (st_write s3 q rfl ⟨_, upd_same, (l.set rx n).mono xe⟩) (en3.mono xe)
        · exact h3.elim
      · exact h3.elim
    · exact h3.elim
  | _ => exact h3.elim
theorem s_for {tg iter : Expr} {t : Tgt} {mi : iL} {body : List Stmt} (hp : PassesOwn (model X.prog X.w) X.A X.env X.xe) (hc : X.calm = true) (hi : IX X T E tg iter mi) (hg : GX X tg t) (hb : SXs X T E body a) (hs : ∀ x, foldedSetIterable iter X.env x = pure x := by intro _; rfl) :
    SX X T E (.For tg iter body [] pos) (cFor mi t a) := by
  refine ps_imp (ps_for hp hc hi hg hb hs) fun D σ H ⟨g, st, env, s, en, h⟩ => ⟨g, st, env, s, en, ?_⟩
  simp only [cFor] at h
  cases q : mi env st with
  | exc n fs s' => rw [q] at h; exact h
  | bad => rw [q] at h; exact h
  | ok xs s' =>
    rw [q] at h
    intro g1 H1 J e1 s1 wk
    refine ⟨fun i m σ H => i + m = xs.length ∧ ∃ g st env, Ext g1 H1 g H ∧ StOk X.K g H st ∧ EnvOk X.K g H env σ ∧ okS T X.K E g H (forGo t a (xs.drop i) env st) D, ⟨xs.length, by omega, g1, s', env, Ext.refl _ _, s1, en.mono e1, okS.ext h e1⟩, ?_⟩
    rintro i m σ H ⟨hm, g, st, env, e2, s2, en2, h2⟩
    obtain ⟨w1, w2⟩ := wk g H st e2 s2 i
    by_cases hlt : i < xs.length
    · have hx : xs[i]? = some xs[i] := List.getElem?_eq_getElem hlt
      obtain ⟨go, yl⟩ := w2 _ hx
      have hd : xs.drop i = xs[i] :: xs.drop (i + 1) := List.drop_eq_getElem_cons hlt
      rw [hd] at h2
      simp only [forGo] at h2
      refine .inr ⟨go, fun σ' H' => ∃ g st env, Ext g1 H1 g H' ∧ StOk X.K g H' st ∧ EnvOk X.K g H' env σ' ∧ okS T X.K E g H' (forGo t a (xs.drop (i + 1)) env st) D, fun σ' H' n => ⟨m - 1, by omega, by omega, n⟩, fun v H' y => ?_⟩
      obtain ⟨e3, s3, r3⟩ := yl v H' y
      cases q2 : t.run xs[i] env with
      | none => rw [q2] at h2; exact h2.elim
      | some env1 =>
        rw [q2] at h2
        refine tg_ok (en2.mono e3) r3 q2 fun σ2 en4 _ => ⟨g, st, env1, s3, en4, ?_⟩
        simp only at h2
        cases q3 : a env1 st with
        | nx e s' => rw [q3] at h2; exact fun g' H'' σ' e4 s4 en5 => ⟨g', s', e, e2.trans (e3.trans e4), s4, en5, okS.ext h2 (e3.trans e4)⟩
        | ct e s' => rw [q3] at h2; exact fun g' H'' σ' e4 s4 en5 => ⟨g', s', e, e2.trans (e3.trans e4), s4, en5, okS.ext h2 (e3.trans e4)⟩
        | bk e s' => rw [q3] at h2; exact okS.ext (r := .nx e s') h2 e3
        | rt x s' => rw [q3] at h2; exact okS.ext (r := .rt x s') h2 e3
        | exc n fs s' => rw [q3] at h2; exact okS.ext (r := .exc n fs s') h2 e3
        | bad => rw [q3] at h2; exact h2
    · have hd : xs.drop i = [] := List.drop_eq_nil_of_le (by omega)
      rw [hd] at h2
      exact .inl ⟨w1 (by omega), h2 g H σ (Ext.refl _ _) s2 en2⟩
end
end Sim
set_option Elab.async false
set_option linter.all false
set_option maxRecDepth 100000
set_option maxHeartbeats 4000000
namespace Sim
open PySem PySem.Spec PyProof.Rows L2
variable [Tb] [Lm]
/-! ### list comprehensions -/
def Res.only {α : Type} : Res α → Res α
  | .ok a s => .ok a s
  | _ => .bad
def wipeL (env : Lo) : List Nat → Lo
  | [] => env
  | v :: vs => (wipeL env vs).set v none
def lcGo (t : Tgt) (c : MB) (m : M) (env0 : Lo) : List PV → Sto → Res (List PV)
  | [], st => .ok [] st
  | x :: xs, st => match t.run x env0 with
    | none => .bad
    | some env1 => (c env1 st).only.bind fun b s1 => if b = true then (m env1 s1).only.bind fun y s2 => (lcGo t c m env0 xs s2).bind fun ys s3 => .ok (y :: ys) s3 else lcGo t c m env0 xs s1
def mLc (it : iL) (t : Tgt) (c : MB) (m : M) (vs : List Nat) : M := fun env st => (it env st).bind fun xs s1 => if fitL xs then (lcGo t c m (wipeL env vs) xs s1).bind fun ys s2 => .ok (.lst ys) s2 else .bad
def bYes : MB := fun _ st => .ok true st
section
variable {T : String → Value} {K : PySem.W.Frag} {E E' : XK}
theorem okR.stepB {α β γ δ : Type} {R : G → Hp → α → β → Prop} {R' : G → Hp → γ → δ → Prop} {g1 g : G} {H1 H : Hp} {r' : Res γ} {k : γ → Sto → Res α} {Q : β → Hp → Prop} (h : okR T K R g1 H1 (r'.only.bind k) Q E) (e : Ext g1 H1 g H) :
    okR T K R' g H r' (fun v H2 => ∃ g2 st2 x, Ext g H g2 H2 ∧ StOk K g2 H2 st2 ∧ R' g2 H2 x v ∧ okR T K R g1 H1 (k x st2) Q E) E' := by
  cases r' with
  | ok x st => exact fun g2 H2 v e2 s2 r2 => ⟨g2, st, x, e2, s2, r2, h⟩
  | exc n fs st => exact h.elim
  | bad => exact h.elim
/-- D is guarded -/
def G.grd (g : G) (D : Addr) : G := { g with P := fun a => g.P a ∨ a = D }
def G.ungrd (g : G) (D : Addr) : G := { g with P := fun a => g.P a ∧ a ≠ D }
theorem ext_grd {g : G} {H : Hp} {D : Addr} : Ext g H (g.grd D) H := ⟨⟨Nat.le_refl _, fun _ _ => rfl, fun a h => ⟨h, rfl⟩, fun _ _ _ h => h⟩, fun a h => ⟨.inl h, rfl⟩⟩
theorem st_grd {g : G} {H : Hp} {D : Addr} {st : Sto} (s : StOk K g H st) (h1 : nt H D) (h2 : ¬ g.F D) (h3 : ∀ i, i < g.n → g.f i ≠ D) : StOk K (g.grd D) H st :=
  ⟨s.len, s.inj, s.sep, s.fz, fun a h => h.elim (s.pr a) fun e => by subst e; exact ⟨h1, h2, h3⟩, fun i m e => (s.at_ i m e).keep ext_grd rfl, s.tb⟩
theorem MOk.keepW {g g' : G} {H H' : Hp} {a : Addr} {m : MO} (h : MOk K g H a m) (e : ExtW g H g' H') (k : H' a = H a) : MOk K g' H' a m := by
  cases m with
  | lst xs => obtain ⟨vs, q, r⟩ := h; exact ⟨vs, k.trans q, r.monoW e⟩
  | dct xs => obtain ⟨vs, q, r⟩ := h; exact ⟨vs, k.trans q, r.monoW e⟩
  | dd xs => obtain ⟨vs, q, r⟩ := h; exact ⟨vs, k.trans q, r.monoW e⟩
  | dead => exact nt.of h k
/-- what is guarded may be changed by who guards it -/
theorem ext_un {g : G} {H : Hp} {D : Addr} {o : HO} {vs : List V} {st : Sto} (s : StOk K g H st) (gd : g.P D) (hD : H D = some (.lst vs)) : ExtW g H (g.ungrd D) (upd H D o) := by
  refine ⟨Nat.le_refl _, fun _ _ => rfl, fun a h => ⟨h, upd_ne fun e => (s.pr D gd).2.1 (e ▸ h)⟩, fun a u tu h => ?_⟩
  have ne : a ≠ D := fun e => by
    subst e
    rw [hD] at h; cases h; cases tu
  rw [upd_ne ne]; exact h
theorem tabs_at {H : Hp} {D : Addr} {o u : HO} (t : LamX.Tabs Tb.tabs H) (hD : H D = some u) (hu : (∃ xs, u = .lst xs) ∨ ∃ xs, u = .dK xs) : LamX.Tabs Tb.tabs (upd H D o) := tabs_up t fun b v h n1 n2 => by
  have ne : b ≠ D := fun q => by
    subst q
    rw [hD] at h
    cases h
    rcases hu with ⟨xs, e⟩ | ⟨xs, e⟩
    · exact n1 _ e
    · exact n2 _ e
  rw [upd_ne ne]; exact h
theorem st_un {g : G} {H : Hp} {D : Addr} {o : HO} {vs : List V} {st : Sto} (s : StOk K g H st) (gd : g.P D) (hD : H D = some (.lst vs)) : StOk K (g.ungrd D) (upd H D o) st := by
  have x := ext_un (o := o) s gd hD
  refine ⟨s.len, s.inj, s.sep, fun a h => ?_, fun a h => ⟨?_, (s.pr a h.1).2⟩, fun i m e => (s.at_ i m e).keepW x (upd_ne ((s.pr D gd).2.2 i (s.lt e))), tabs_at s.tb hD (.inl ⟨_, rfl⟩)⟩
  · exact (s.fz a h).of (x.F a h).2
  · exact (s.pr a h.1).1.of (upd_ne h.2)
theorem ext_back {g1 g : G} {H1 H : Hp} {D : Addr} {o : HO} {vs : List V} {st st1 : Sto} (s1 : StOk K g1 H1 st1) (e : Ext g1 H1 g H) (s : StOk K g H st) (n1 : H1 D = none) (gd : g.P D) (hD : H D = some (.lst vs)) : Ext g1 H1 (g.ungrd D) (upd H D o) := by
  refine ⟨e.toExtW.trans (ext_un s gd hD), fun a h => ?_⟩
  have ne : a ≠ D := fun z => (s1.pr a h).1.ne (z ▸ n1)
  exact ⟨⟨(e.P a h).1, ne⟩, by rw [upd_ne ne]; exact (e.P a h).2⟩
theorem EnvOk.wipe {g : G} {H : Hp} {env : Lo} {σ : L2.St} (en : EnvOk K g H env σ) : ∀ vs : List Nat, (∀ v ∈ vs, Lm.at_ v = none) → EnvOk K g H (wipeL env vs) (wipe σ vs)
  | [], _ => en
  | v :: vs, hlm => by
    have ih := en.wipe vs fun w hw => hlm w (List.mem_cons_of_mem _ hw)
    refine ⟨by simp [L2.wipe, wipeL, ih.len], fun i x q => ?_, fun i a q1 q2 => ?_⟩
    rotate_left
    · have ne : v ≠ i := fun z => by
        subst z
        rw [hlm v List.mem_cons_self] at q1
        cases q1
      simp only [wipeL] at q2
      rw [List.getElem?_set_ne ne] at q2
      simp only [L2.wipe]
      rw [List.getElem?_set_ne ne]
      exact ih.lm i a q1 q2
    by_cases e : v = i
    · subst e
      simp only [wipeL] at q
      by_cases hv : v < (wipeL env vs).length
      · rw [List.getElem?_set_self hv] at q; cases q
      · rw [List.getElem?_eq_none (by simpa using hv)] at q; cases q
    · simp only [wipeL] at q
      rw [List.getElem?_set_ne e] at q
      obtain ⟨w, h1, h2⟩ := ih.at_ i x q
      exact ⟨w, by simp only [L2.wipe]; rw [List.getElem?_set_ne e]; exact h1, h2⟩
theorem upd_id {H : Hp} {D : Addr} {o : HO} (h : H D = some o) : upd H D o = H := by
  funext b
  by_cases e : b = D
  · subst e; rw [upd_same, h]
  · rw [upd_ne e]
/-- the walk through the list, by the mirror -/
theorem lc_core' {wi : TI} {mi : iL} {t : Tgt} {c : MB} {m : M} {vs : List Nat} {te : TE} {tt : TT} (hte : te = TV T K (fun _ _ _ => False) m) (htt : tt = TB T K (fun _ _ _ => False) c) (hwi : wi = TI' T K E mi) (hsl : ∀ i ∈ t.slots, i ∈ vs) (hlm : ∀ v ∈ vs, Lm.at_ v = none) {σ : L2.St} {H : Hp} {Q : VK} (h : TV T K E (mLc mi t c m vs) σ H Q) : tLc wi (tgR K t) tt te vs σ H Q := by
  subst hte htt hwi
  obtain ⟨g, st, env, s, en, h⟩ := h
  refine ⟨g, st, env, s, en, h.step.imp fun J H1 ⟨g1, s1, xs, e1, so1, wk, h1⟩ => ?_⟩
  have en1 := en.mono e1
  intro D hD
  split at h1
  · rename_i hf
    have hlen : xs.length ≤ sizeLine := fitL_ok hf
    have start : ∀ (g : G) (H : Hp) (st : Sto) (acc : List PV) (ws : List V), Ext g1 H1 g H → StOk K g H st → H D = some (.lst ws) → RVL K g H acc ws → ¬ g.F D → (∀ i, i < g.n → g.f i ≠ D) →
        okR T K (rV K) g1 H1 (.ok (.lst acc) st) Q E → Q (.ref D) H := fun g H st acc ws e s hd l nf ni q => by
      have x : Ext g H (g.frz D) H := ⟨⟨Nat.le_refl _, fun _ _ => rfl, fun a h => ⟨.inl h, rfl⟩, fun _ _ _ h => h⟩, fun a h => ⟨h, rfl⟩⟩
      by_cases hp : g.P D
      · have e2 := ext_back (o := .lst ws) so1 e s hD hp hd
        have s2 := st_un (o := .lst ws) s hp hd
        have x2 := ext_un (o := .lst ws) s hp hd
        rw [upd_id hd] at e2 s2 x2
        have x3 : Ext (g.ungrd D) H ((g.ungrd D).frz D) H := ⟨⟨Nat.le_refl _, fun _ _ => rfl, fun a h => ⟨.inl h, rfl⟩, fun _ _ _ h => h⟩, fun a h => ⟨h, rfl⟩⟩
        refine okR.finE q (e2.trans x3) ⟨s2.len, s2.inj, fun i m e al h => h.elim (s2.sep i m e al) (fun z => ni i (s2.lt e) z), fun a h => h.elim (s2.fz a) fun z => by subst z; exact ⟨_, hd, nofun⟩, fun a h => ⟨(s2.pr a h).1, fun z => z.elim (s2.pr a h).2.1 h.2, (s2.pr a h).2.2⟩, fun i m e => (s2.at_ i m e).keep x3 rfl, s2.tb⟩ (.lst (.inr rfl) hd ((l.monoW x2).mono x3))
      · refine okR.finE q (e.trans x) ⟨s.len, s.inj, fun i m e al h => h.elim (s.sep i m e al) (fun z => ni i (s.lt e) z), fun a h => h.elim (s.fz a) fun z => by subst z; exact ⟨_, hd, nofun⟩, fun a h => ⟨(s.pr a h).1, fun z => z.elim (s.pr a h).2.1 fun z => hp (z ▸ h), (s.pr a h).2.2⟩, fun i m e => (s.at_ i m e).keep x rfl, s.tb⟩ (.lst (.inr rfl) hd (l.mono x))
    refine ⟨fun i n H => i + n = xs.length ∧ ∃ g st acc ws, Ext g1 H1 g H ∧ StOk K g H st ∧ H D = some (.lst ws) ∧ RVL K g H acc ws ∧ ¬ g.F D ∧ (∀ i, i < g.n → g.f i ≠ D) ∧ acc.length ≤ i ∧
      okR T K (rV K) g1 H1 ((lcGo t c m (wipeL env vs) (xs.drop i) st).bind fun ys s2 => .ok (.lst (acc ++ ys)) s2) Q E, ⟨xs.length, by omega, g1, s1, [], [], ext_new so1 hD, st_new so1 hD, upd_same, .nil, fun z => (so1.fz D z).ne hD, fun i hi z => ?_, Nat.zero_le _, by simpa using h1⟩, ?_⟩
    · have hi' : i < s1.length := by rw [← so1.len]; exact hi
      exact (so1.at_ i s1[i] (List.getElem?_eq_getElem hi')).there (z ▸ hD)
    · rintro i n H ⟨hn, g, st, acc, ws, e, s, hd, l, nf, ni, hacc, h⟩
      obtain ⟨w1, w2⟩ := wk g H st e s i
      by_cases hlt : i < xs.length
      · have hx : xs[i]? = some xs[i] := List.getElem?_eq_getElem hlt
        have hdr : xs.drop i = xs[i] :: xs.drop (i + 1) := List.drop_eq_getElem_cons hlt
        rw [hdr] at h
        obtain ⟨go, _⟩ := w2 _ hx
        refine .inr ⟨go, fun H' => ∃ g st acc ws, Ext g1 H1 g H' ∧ StOk K g H' st ∧ H' D = some (.lst ws) ∧ RVL K g H' acc ws ∧ ¬ g.F D ∧ (∀ i, i < g.n → g.f i ≠ D) ∧ acc.length ≤ i + 1 ∧
          okR T K (rV K) g1 H1 ((lcGo t c m (wipeL env vs) (xs.drop (i + 1)) st).bind fun ys s2 => .ok (.lst (acc ++ ys)) s2) Q E, fun H' w => ⟨n - 1, by omega, by omega, w⟩, fun v H' y => ?_⟩
        -- the guard
        have sg : StOk K (g.grd D) H st := st_grd s ⟨_, hd, nofun⟩ nf ni
        have eg : Ext g1 H1 (g.grd D) H := e.trans ext_grd
        obtain ⟨_, w4⟩ := wk (g.grd D) H st eg sg i
        obtain ⟨e3, s3, r3⟩ := (w4 _ hx).2 v H' y
        have gD3 : (g.grd D).P D := .inr rfl
        simp only [lcGo] at h
        cases q2 : t.run xs[i] (wipeL env vs) with
        | none => rw [q2] at h; exact h.elim
        | some env1 =>
          rw [q2] at h
          dsimp only at h
          refine tg_ok ((en1.mono (eg.trans e3)).wipe vs hlm) r3 q2 fun σ2 en4 wp => ⟨?_, g.grd D, st, env1, s3, en4, ?_⟩
          · rw [wp vs hsl]
            have : ∀ us : List Nat, (∀ u ∈ us, u ∈ vs) → wipe (wipe σ vs) us = wipe σ vs := by
              intro us
              induction us with
              | nil => intro _; rfl
              | cons u us ih =>
                intro hu
                show (wipe (wipe σ vs) us).set u none = _
                rw [ih fun w hw => hu w (List.mem_cons_of_mem _ hw)]
                have idm : ∀ (ws : List Nat), u ∈ ws → (wipe σ ws).set u none = wipe σ ws := by
                  intro ws
                  induction ws with
                  | nil => intro z; cases z
                  | cons a ws ih2 =>
                    intro z
                    show ((wipe σ ws).set a none).set u none = (wipe σ ws).set a none
                    by_cases ea : a = u
                    · subst ea; rw [List.set_set]
                    · rw [List.set_comm _ _ ea, ih2 ((List.mem_cons.mp z).resolve_left fun q => ea q.symm)]
                exact idm vs (hu u List.mem_cons_self)
            exact this vs fun _ hu => hu
          · have hA : okR T K (rV K) g1 H1 ((c env1 st).only.bind fun b s1 => (if b = true then (m env1 s1).only.bind fun y s2 => (lcGo t c m (wipeL env vs) (xs.drop (i + 1)) s2).bind fun ys s3 => .ok (y :: ys) s3 else lcGo t c m (wipeL env vs) (xs.drop (i + 1)) s1).bind fun ys s2 => .ok (.lst (acc ++ ys)) s2) Q E := by
              cases qc : c env1 st with
              | ok b s1 => rw [qc] at h; exact h
              | exc n fs s1 => rw [qc] at h; exact h
              | bad => rw [qc] at h; exact h
            have ge3 : Ext g1 H1 (g.grd D) H' := eg.trans e3
            refine (hA.stepB (R' := rB) ge3).imp fun b H4 ⟨g4, st4, b', e4, s4, eb, h4⟩ => ?_
            subst eb
            have gD4 : g4.P D := (e4.P D gD3).1
            have hD4 : H4 D = some (.lst ws) := by rw [(e4.P D gD3).2, (e3.P D gD3).2]; exact hd
            have l4 : RVL K g4 H4 acc ws := (l.mono (ext_grd.trans e3)).mono e4
            cases b' with
            | false =>
              rw [if_neg Bool.false_ne_true] at h4 ⊢
              have e5 := ext_back (o := .lst ws) so1 (ge3.trans e4) s4 hD gD4 hD4
              have s5 := st_un (o := .lst ws) s4 gD4 hD4
              have x5 := ext_un (o := .lst ws) s4 gD4 hD4
              rw [upd_id hD4] at e5 s5 x5
              exact ⟨g4.ungrd D, st4, acc, ws, e5, s5, hD4, l4.monoW x5, (s4.pr D gD4).2.1, (s4.pr D gD4).2.2, by omega, h4⟩
            | true =>
              rw [if_pos rfl] at h4 ⊢
              refine ⟨g4, st4, env1, s4, en4.mono e4, ?_⟩
              have hB : okR T K (rV K) g1 H1 ((m env1 st4).only.bind fun y s2 => (lcGo t c m (wipeL env vs) (xs.drop (i + 1)) s2).bind fun ys s3 => .ok (.lst (acc ++ (y :: ys))) s3) Q E := by
                cases qm : m env1 st4 with
                | ok y s2 =>
                  rw [qm] at h4
                  simp only [Res.only, Res.bind_ok] at h4 ⊢
                  cases ql : lcGo t c m (wipeL env vs) (xs.drop (i + 1)) s2 with
                  | ok ys s3 => rw [ql] at h4; exact h4
                  | exc n fs s3 => rw [ql] at h4; exact h4
                  | bad => rw [ql] at h4; exact h4
                | exc n fs s1 => rw [qm] at h4; exact h4
                | bad => rw [qm] at h4; exact h4
              refine (hB.stepB (R' := rV K) (ge3.trans e4)).imp fun y H5 ⟨g5, st5, yy, e5, s5, ry, h5⟩ => ?_
              have gD5 : g5.P D := (e5.P D gD4).1
              have hD5 : H5 D = some (.lst ws) := by rw [(e5.P D gD4).2]; exact hD4
              have x6 := ext_un (o := .lst (ws ++ [y])) s5 gD5 hD5
              refine ⟨ws, hD5, ?_, g5.ungrd D, st5, acc ++ [yy], ws ++ [y], ext_back so1 ((ge3.trans e4).trans e5) s5 hD gD5 hD5, st_un s5 gD5 hD5, upd_same, ?_, (s5.pr D gD5).2.1, (s5.pr D gD5).2.2, by simp; omega, ?_⟩
              · rw [← l.length]; omega
              · exact ((l4.mono e5).append (.cons ry .nil)).monoW x6
              · simpa using h5
      · have hdr : xs.drop i = [] := List.drop_eq_nil_of_le (by omega)
        rw [hdr] at h
        refine .inl ⟨w1 (by omega), start g H st acc ws e s hd l nf ni ?_⟩
        simpa [lcGo] using h
  · exact h1.elim
end
section
variable {X : Cx} {T : String → Value} {E : XK} {elt tg iter : Expr} {ifs : List Expr} {scope : Scope} {own : List (Str × Nat)} {pos : Pos} {mi : iL} {t : Tgt} {c : MB} {m : M}
abbrev CX' (X : Cx) (T : String → Value) (es : List Expr) (c : MB) : Prop := PTs X es (TB T X.K (fun _ _ _ => False) c)
theorem c_nil : CX' X T [] bYes := ⟨fun pins s σ H Q I ⟨g, st, env, so, en, h⟩ => pts_nil.run pins s σ H Q I (okR.fin h so rfl)⟩
theorem c_one {e : Expr} (h : TX X T (fun _ _ _ => False) e c) : CX' X T [e] c := pts_one h
theorem x_lc (hc : X.calm = true) (hN : X.N.Nodup) (hi : IX X T E tg iter mi) (ok : BlkOk X.N X.env.scope scope own)
    (hg : ∀ (s : Shared) (H : Hp) (C : Addr) (cl : List (Str × Addr)) (fp : List Addr), GX (X.blk s H scope (compEnvC scope cl C X.env) fp) tg t) (ht : ∀ (s : Shared) (H : Hp) (C : Addr) (cl : List (Str × Addr)) (fp : List Addr), CX' (X.blk s H scope (compEnvC scope cl C X.env) fp) T ifs c)
    (he : ∀ (s : Shared) (H : Hp) (C : Addr) (cl : List (Str × Addr)) (fp : List Addr), EX (X.blk s H scope (compEnvC scope cl C X.env) fp) T (fun _ _ _ => False) elt m) (hsl : ∀ i ∈ t.slots, i ∈ own.map (·.2)) (hs : ∀ x, foldedSetIterable iter X.env x = pure x := by intro _; rfl) (hlm : ∀ v ∈ own.map (·.2), Lm.at_ v = none := by first | exact fun _ _ => rfl | decide) :
    EX X T E (.ListComp elt [⟨tg, iter, ifs, 0⟩] scope pos) (mLc mi t c m (own.map (·.2))) :=
  pe_imp (pe_lc hc hN hi ok hg ht he hs) fun σ H Q h => lc_core' rfl rfl rfl hsl hlm h
/-- y = [..] on one line -/
theorem s_setLc {i : Nat} {y : Str} {py spos : Pos} (hc : X.calm = true) (hN : X.N.Nodup) (hy : X.N[i]? = some y) (hyl : X.env.scope.names.lookup y = some .local)
    (hsw : swapsWith (.ListComp elt [⟨tg, iter, ifs, 0⟩] scope pos) (some (.Name y py)) spos.line X.env = pure true) (hi : IX X T E tg iter mi) (ok : BlkOk X.N X.env.scope scope own)
    (hg : ∀ (s : Shared) (H : Hp) (C : Addr) (cl : List (Str × Addr)) (fp : List Addr), GX (X.blk s H scope (compEnvC scope cl C X.env) fp) tg t) (ht : ∀ (s : Shared) (H : Hp) (C : Addr) (cl : List (Str × Addr)) (fp : List Addr), CX' (X.blk s H scope (compEnvC scope cl C X.env) fp) T ifs c)
    (he : ∀ (s : Shared) (H : Hp) (C : Addr) (cl : List (Str × Addr)) (fp : List Addr), EX (X.blk s H scope (compEnvC scope cl C X.env) fp) T (fun _ _ _ => False) elt m) (hsl : ∀ i ∈ t.slots, i ∈ own.map (·.2)) (hs : ∀ x, foldedSetIterable iter X.env x = pure x := by intro _; rfl) (hlm : ∀ v ∈ own.map (·.2), Lm.at_ v = none := by first | exact fun _ _ => rfl | decide) :
    SX X T E (.Assign [.Name y py] (.ListComp elt [⟨tg, iter, ifs, 0⟩] scope pos) spos) (cSet (.one i) (mLc mi t c m (own.map (·.2)))) :=
  ps_imp (ps_setLc hc hN hy hyl hsw hi ok hg ht he hs) fun D σ H h => lc_core' rfl rfl rfl hsl hlm (set_core (t := .one i) (tg := gName i) rfl h)
end
end Sim
set_option Elab.async false
set_option linter.all false
set_option maxRecDepth 100000
set_option maxHeartbeats 4000000
namespace Sim
open PySem PySem.Spec PyProof.Rows L2
variable [Tb] [Lm]
/-! ### equality of trees, by computing -/
mutual
def PV.eqb : PV → PV → Bool
  | .non, .non => true
  | .bl a, .bl b => a == b
  | .int a, .int b => decide (a = b)
  | .str a, .str b => decide (a = b)
  | .tup xs, .tup ys => PV.eqbs xs ys
  | .lst xs, .lst ys => PV.eqbs xs ys
  | .rol xs, .rol ys => PV.eqbs xs ys
  | .wtp xs, .wtp ys => PV.eqbs xs ys
  | .dct xs, .dct ys => PV.eqbk xs ys
  | .ref a, .ref b => decide (a = b)
  | .raw a, .raw b => decide (a = b)
  | .err a, .err b => decide (a = b)
  | .dd xs, .dd ys => PV.eqbd xs ys
  | _, _ => false
termination_by structural x => x
def PV.eqbs : List PV → List PV → Bool
  | [], [] => true
  | x :: xs, y :: ys => PV.eqb x y && PV.eqbs xs ys
  | _, _ => false
termination_by structural x => x
def PV.eqbk : List (Key × PV) → List (Key × PV) → Bool
  | [], [] => true
  | (k, x) :: xs, (j, y) :: ys => decide (k = j) && (PV.eqb x y && PV.eqbk xs ys)
  | _, _ => false
termination_by structural x => x
def PV.eqbd : List (NestedKey × PV) → List (NestedKey × PV) → Bool
  | [], [] => true
  | (k, x) :: xs, (j, y) :: ys => decide (k = j) && (PV.eqb x y && PV.eqbd xs ys)
  | _, _ => false
termination_by structural x => x
end
mutual
theorem PV.eqb_ok : ∀ {x y : PV}, PV.eqb x y = true → x = y
  | .non, y, h => by cases y <;> first | rfl | cases h
  | .bl a, y, h => by cases y <;> simp_all [PV.eqb]
  | .int a, y, h => by cases y <;> simp_all [PV.eqb]
  | .str a, y, h => by cases y <;> simp_all [PV.eqb]
  | .tup xs, y, h => by
    cases y with
    | tup ys => rw [PV.eqbs_ok (x := xs) (y := ys) (by simpa [PV.eqb] using h)]
    | _ => simp [PV.eqb] at h
  | .lst xs, y, h => by
    cases y with
    | lst ys => rw [PV.eqbs_ok (x := xs) (y := ys) (by simpa [PV.eqb] using h)]
    | _ => simp [PV.eqb] at h
  | .rol xs, y, h => by
    cases y with
    | rol ys => rw [PV.eqbs_ok (x := xs) (y := ys) (by simpa [PV.eqb] using h)]
    | _ => simp [PV.eqb] at h
  | .wtp xs, y, h => by
    cases y with
    | wtp ys => rw [PV.eqbs_ok (x := xs) (y := ys) (by simpa [PV.eqb] using h)]
    | _ => simp [PV.eqb] at h
  | .dct xs, y, h => by
    cases y with
    | dct ys => rw [PV.eqbk_ok (x := xs) (y := ys) (by simpa [PV.eqb] using h)]
    | _ => simp [PV.eqb] at h
  | .ref a, y, h => by cases y <;> simp_all [PV.eqb]
  | .raw a, y, h => by cases y <;> simp_all [PV.eqb]
  | .err a, y, h => by cases y <;> simp_all [PV.eqb]
  | .dd xs, y, h => by
    cases y with
    | dd ys => rw [PV.eqbd_ok (x := xs) (y := ys) (by simpa [PV.eqb] using h)]
    | _ => simp [PV.eqb] at h
theorem PV.eqbs_ok : ∀ {x y : List PV}, PV.eqbs x y = true → x = y
  | [], y, h => by cases y <;> first | rfl | simp [PV.eqbs] at h
  | x :: xs, y, h => by
    cases y with
    | nil => simp [PV.eqbs] at h
    | cons y ys =>
      simp only [PV.eqbs, Bool.and_eq_true] at h
      rw [PV.eqb_ok h.1, PV.eqbs_ok h.2]
theorem PV.eqbk_ok : ∀ {x y : List (Key × PV)}, PV.eqbk x y = true → x = y
  | [], y, h => by cases y <;> first | rfl | simp [PV.eqbk] at h
  | (k, x) :: xs, y, h => by
    cases y with
    | nil => simp [PV.eqbk] at h
    | cons y ys =>
      obtain ⟨j, y⟩ := y
      simp only [PV.eqbk, Bool.and_eq_true, decide_eq_true_eq] at h
      rw [h.1, PV.eqb_ok h.2.1, PV.eqbk_ok h.2.2]
theorem PV.eqbd_ok : ∀ {x y : List (NestedKey × PV)}, PV.eqbd x y = true → x = y
  | [], y, h => by cases y <;> first | rfl | simp [PV.eqbd] at h
  | (k, x) :: xs, y, h => by
    cases y with
    | nil => simp [PV.eqbd] at h
    | cons y ys =>
      obtain ⟨j, y⟩ := y
      simp only [PV.eqbd, Bool.and_eq_true, decide_eq_true_eq] at h
      rw [h.1, PV.eqb_ok h.2.1, PV.eqbd_ok h.2.2]
end
mutual
theorem PV.eqb_refl : ∀ x : PV, PV.eqb x x = true
  | .non => rfl
  | .bl a => by simp [PV.eqb]
  | .int a => by simp [PV.eqb]
  | .str a => by simp [PV.eqb]
  | .tup xs => by simp [PV.eqb, PV.eqbs_refl xs]
  | .lst xs => by simp [PV.eqb, PV.eqbs_refl xs]
  | .rol xs => by simp [PV.eqb, PV.eqbs_refl xs]
  | .wtp xs => by simp [PV.eqb, PV.eqbs_refl xs]
  | .dct xs => by simp [PV.eqb, PV.eqbk_refl xs]
  | .ref a => by simp [PV.eqb]
  | .raw a => by simp [PV.eqb]
  | .err a => by simp [PV.eqb]
  | .dd xs => by simp [PV.eqb, PV.eqbd_refl xs]
theorem PV.eqbs_refl : ∀ x : List PV, PV.eqbs x x = true
  | [] => rfl
  | x :: xs => by simp [PV.eqbs, PV.eqb_refl x, PV.eqbs_refl xs]
theorem PV.eqbk_refl : ∀ x : List (Key × PV), PV.eqbk x x = true
  | [] => rfl
  | (k, x) :: xs => by simp [PV.eqbk, PV.eqb_refl x, PV.eqbk_refl xs]
theorem PV.eqbd_refl : ∀ x : List (NestedKey × PV), PV.eqbd x x = true
  | [] => rfl
  | (k, x) :: xs => by simp [PV.eqbd, PV.eqb_refl x, PV.eqbd_refl xs]
end
def MO.eqb : MO → MO → Bool
  | .lst a, .lst b => PV.eqbs a b
  | .dct a, .dct b => PV.eqbk a b
  | .dd a, .dd b => PV.eqbd a b
  | .dead, .dead => true
  | _, _ => false
theorem MO.eqb_ok {a b : MO} (h : MO.eqb a b = true) : a = b := by
  cases a <;> cases b <;> first | rfl | (simp only [MO.eqb] at h; first | rw [PV.eqbs_ok h] | rw [PV.eqbk_ok h] | rw [PV.eqbd_ok h]) | (simp [MO.eqb] at h)
@[simp] theorem MO.eqb_refl (a : MO) : MO.eqb a a = true := by cases a <;> simp [MO.eqb, PV.eqbs_refl, PV.eqbk_refl, PV.eqbd_refl]
/-! ### what is left behind when a def is left -/
mutual
def low (n : Nat) : PV → Bool
  | .ref k => decide (k < n)
  | .tup xs => lows n xs
  | .lst xs => lows n xs
  | .rol xs => lows n xs
  | .wtp xs => lows n xs
  | .dct xs => lowk n xs
  | .dd xs => lowd n xs
  | _ => true
def lows (n : Nat) : List PV → Bool
  | [] => true
  | x :: xs => low n x && lows n xs
def lowk (n : Nat) : List (Key × PV) → Bool
  | [] => true
  | (_, x) :: xs => low n x && lowk n xs
def lowd (n : Nat) : List (NestedKey × PV) → Bool
  | [] => true
  | (_, x) :: xs => low n x && lowd n xs
end
def lowM (n : Nat) : MO → Bool
  | .lst xs => lows n xs
  | .dct xs => lowk n xs
  | .dd xs => lowd n xs
  | .dead => true
def mapO {α β : Type} (f : α → Option β) : List α → Option (List β)
  | [] => some []
  | x :: xs => match f x, mapO f xs with
    | some y, some ys => some (y :: ys)
    | _, _ => none
def mapOk {α β : Type} (f : α → Option β) : List (Key × α) → Option (List (Key × β))
  | [] => some []
  | (k, x) :: xs => match f x, mapOk f xs with
    | some y, some ys => some ((k, y) :: ys)
    | _, _ => none
def mapOd {α β : Type} (f : α → Option β) : List (NestedKey × α) → Option (List (NestedKey × β))
  | [] => some []
  | (k, x) :: xs => match f x, mapOd f xs with
    | some y, some ys => some ((k, y) :: ys)
    | _, _ => none
def gcV (n : Nat) (st : Sto) : Nat → PV → Option PV
  | 0, x => if low n x = true then some x else none
  | d + 1, x => if low n x = true then some x else match x with
    | .ref k => match st[k]? with
      | some (.lst xs) => (mapO (gcV n st d) xs).map .lst
      | some (.dct xs) => (mapOk (gcV n st d) xs).map .dct
      | some (.dd xs) => (mapOd (gcV n st d) xs).map .dd
      | _ => none
    | .tup xs => (mapO (gcV n st d) xs).map .tup
    | .lst xs => (mapO (gcV n st d) xs).map .lst
    | _ => none
/-- the older part of the store: each thing is as it was, or holds nothing newer -/
def okOld (n : Nat) : Sto → Sto → Bool
  | [], _ => true
  | a :: as, b :: bs => (MO.eqb a b || lowM n a) && okOld n as bs
  | _ :: _, [] => false
/-- st: the store at the entry; s: at the end -/
def gc (st : Sto) (x : PV) (s : Sto) : Res PV := match gcV st.length s 4 x with
  | some y => if decide (st.length ≤ s.length) && okOld st.length (s.take st.length) st then .ok y (s.take st.length) else .bad
  | none => .bad
section
variable {K : PySem.W.Frag} {g g' : G} {H H' : Hp}
mutual
theorem low_of : ∀ {x : PV} {v : V}, RV K g H x v → low g.n x = true
  | _, _, .non => rfl
  | _, _, .bl _ => rfl
  | _, _, .int _ => rfl
  | _, _, .str _ => rfl
  | _, _, .tup _ l => by simpa only [low] using lows_of l
  | _, _, .wtp _ l => by simpa only [low] using lows_of l
  | _, _, .lst _ _ l => by simpa only [low] using lows_of l
  | _, _, .rol _ _ l => by simpa only [low] using lows_of l
  | _, _, .rolK _ _ l => by simpa only [low] using lows_of l
  | _, _, .dct _ _ l => by simpa only [low] using lowk_of l
  | _, _, .ref h => by simpa only [low, decide_eq_true_eq] using h
  | _, _, .raw _ => rfl
  | _, _, .err _ _ => rfl
  | _, _, .dd _ _ l => by simpa only [low] using lowd_of l
  | _, _, .ddf _ _ l => by simpa only [low] using lowd_of l
theorem lows_of : ∀ {x : List PV} {v : List V}, RVL K g H x v → lows g.n x = true
  | _, _, .nil => rfl
  | _, _, .cons r l => by simp only [lows, low_of r, lows_of l, Bool.and_self]
theorem lowk_of : ∀ {x : List (Key × PV)} {v : List (Key × V)}, RVK K g H x v → lowk g.n x = true
  | _, _, .nil => rfl
  | _, _, .cons r l => by simp only [lowk, low_of r, lowk_of l, Bool.and_self]
theorem lowd_of : ∀ {x : List (NestedKey × PV)} {v : List (NestedKey × Addr × V)}, RVD K g H x v → lowd g.n x = true
  | _, _, .nil => rfl
  | _, _, .cons k d r l => by simp only [lowd, low_of r, lowd_of l, Bool.and_self]
end
mutual
theorem low_nk (n : Nat) : ∀ k : NestedKey, low n (nkP k) = true
  | .none => by simp [nkP, low]
  | .num i => by simp [nkP, low]
  | .text x => by simp [nkP, low]
  | .tup ks => by simp only [nkP, low]; exact lows_nk n ks
theorem lows_nk (n : Nat) : ∀ ks : List NestedKey, lows n (nkPs ks) = true
  | [] => rfl
  | k :: ks => by simp only [nkPs, lows, low_nk n k, lows_nk n ks, Bool.and_self]
end
/-- a shorter store: f the same, more that is never changed -/
structure Cut (g g' : G) : Prop where
  f : ∀ k, k < g'.n → g'.f k = g.f k
  F : ∀ a, g.F a → g'.F a
mutual
theorem low_ok (c : Cut g g') : ∀ {x : PV} {v : V}, RV K g H x v → low g'.n x = true → RV K g' H x v
  | _, _, .non, _ => .non
  | _, _, .bl b, _ => .bl b
  | _, _, .int i, _ => .int i
  | _, _, .str x, _ => .str x
  | _, _, .tup h l, e => .tup h (lows_ok c l (by simpa only [low] using e))
  | _, _, .wtp h l, e => .wtp h (lows_ok c l (by simpa only [low] using e))
  | _, _, .lst a r l, e => .lst (c.F _ a) r (lows_ok c l (by simpa only [low] using e))
  | _, _, .rol a r l, e => .rol (c.F _ a) r (lows_ok c l (by simpa only [low] using e))
  | _, _, .rolK a r l, e => .rolK a r (lows_ok c l (by simpa only [low] using e))
  | _, _, .dct a r l, e => .dct (c.F _ a) r (lowk_ok c l (by simpa only [low] using e))
  | _, _, .ref (k := k) h, e => by
    have e' : k < g'.n := by simpa only [low, decide_eq_true_eq] using e
    rw [← c.f k e']
    exact .ref e'
  | _, _, .raw v, _ => .raw v
  | _, _, .err a r, _ => .err (c.F _ a) r
  | _, _, .dd a r l, e => .dd (c.F _ a) r (lowd_ok c l (by simpa only [low] using e))
  | _, _, .ddf a r l, e => .ddf (c.F _ a) r (lowd_ok c l (by simpa only [low] using e))
theorem lows_ok (c : Cut g g') : ∀ {x : List PV} {v : List V}, RVL K g H x v → lows g'.n x = true → RVL K g' H x v
  | _, _, .nil, _ => .nil
  | _, _, .cons r l, e => by
    simp only [lows, Bool.and_eq_true] at e
    exact .cons (low_ok c r e.1) (lows_ok c l e.2)
theorem lowk_ok (c : Cut g g') : ∀ {x : List (Key × PV)} {v : List (Key × V)}, RVK K g H x v → lowk g'.n x = true → RVK K g' H x v
  | _, _, .nil, _ => .nil
  | _, _, .cons r l, e => by
    simp only [lowk, Bool.and_eq_true] at e
    exact .cons (low_ok c r e.1) (lowk_ok c l e.2)
theorem lowd_ok (c : Cut g g') : ∀ {x : List (NestedKey × PV)} {v : List (NestedKey × Addr × V)}, RVD K g H x v → lowd g'.n x = true → RVD K g' H x v
  | _, _, .nil, _ => .nil
  | _, _, .cons (k := k) q d r l, e => by
    simp only [lowd, Bool.and_eq_true] at e
    exact .cons (low_ok c q (low_nk g'.n k)) d (low_ok c r e.1) (lowd_ok c l e.2)
end
def G.cut (g : G) (n : Nat) : G := { g with n := n, F := fun a => g.F a ∨ ∃ k, n ≤ k ∧ k < g.n ∧ a = g.f k }
theorem cut_cut (g : G) (n : Nat) : Cut g (g.cut n) := ⟨fun _ _ => rfl, fun _ h => .inl h⟩
theorem mapO_ok {n d : Nat} {st : Sto} (ih : ∀ {x : PV} {y : PV} {v : V}, RV K g H x v → gcV n st d x = some y → RV K (g.cut n) H y v) : ∀ {xs ys : List PV} {vs : List V}, RVL K g H xs vs → mapO (gcV n st d) xs = some ys → RVL K (g.cut n) H ys vs
  | _, _, _, .nil, e => by cases e; exact .nil
  | _, _, _, .cons r l, e => by
    simp only [mapO] at e
    split at e
    · rename_i y ys e1 e2
      cases e
      exact .cons (ih r e1) (mapO_ok ih l e2)
    · cases e
theorem mapOk_ok {n d : Nat} {st : Sto} (ih : ∀ {x : PV} {y : PV} {v : V}, RV K g H x v → gcV n st d x = some y → RV K (g.cut n) H y v) : ∀ {xs ys : List (Key × PV)} {vs : List (Key × V)}, RVK K g H xs vs → mapOk (gcV n st d) xs = some ys → RVK K (g.cut n) H ys vs
  | _, _, _, .nil, e => by cases e; exact .nil
  | _, _, _, .cons r l, e => by
    simp only [mapOk] at e
    split at e
    · rename_i y ys e1 e2
      cases e
      exact .cons (ih r e1) (mapOk_ok ih l e2)
    · cases e
theorem mapOd_ok {n d : Nat} {st : Sto} (ih : ∀ {x : PV} {y : PV} {v : V}, RV K g H x v → gcV n st d x = some y → RV K (g.cut n) H y v) : ∀ {xs ys : List (NestedKey × PV)} {vs : List (NestedKey × Addr × V)}, RVD K g H xs vs → mapOd (gcV n st d) xs = some ys → RVD K (g.cut n) H ys vs
  | _, _, _, .nil, e => by cases e; exact .nil
  | _, _, _, .cons (k := k) q dp r l, e => by
    simp only [mapOd] at e
    split at e
    · rename_i y ys e1 e2
      cases e
      exact .cons (low_ok (cut_cut g n) q (low_nk _ k)) dp (ih r e1) (mapOd_ok ih l e2)
    · cases e
theorem gcV_ok {n : Nat} {st : Sto} (s : StOk K g H st) : ∀ (d : Nat) {x y : PV} {v : V}, RV K g H x v → gcV n st d x = some y → RV K (g.cut n) H y v
  | 0, x, y, v, r, e => by
    simp only [gcV] at e
    split at e
    · rename_i h; cases e; exact low_ok (cut_cut g n) r h
    · cases e
  | d + 1, x, y, v, r, e => by
    simp only [gcV] at e
    split at e
    · rename_i h; cases e; exact low_ok (cut_cut g n) r h
    · rename_i h
      cases r with
      | ref hk =>
        rename_i k
        have hn : ¬ k < n := by simpa [low] using h
        simp only at e
        split at e
        · rename_i xs q
          obtain ⟨ys, e1, rfl⟩ := Option.map_eq_some_iff.mp e
          obtain ⟨vs, hH, l⟩ := s.at_ k _ q
          exact .lst (.inr ⟨k, by omega, hk, rfl⟩) hH (mapO_ok (fun r e => gcV_ok s d r e) l e1)
        · rename_i xs q
          obtain ⟨ys, e1, rfl⟩ := Option.map_eq_some_iff.mp e
          obtain ⟨vs, hH, l⟩ := s.at_ k _ q
          exact .dct (.inr ⟨k, by omega, hk, rfl⟩) hH (mapOk_ok (fun r e => gcV_ok s d r e) l e1)
        · rename_i xs q
          obtain ⟨ys, e1, rfl⟩ := Option.map_eq_some_iff.mp e
          obtain ⟨vs, hH, l⟩ := s.at_ k _ q
          exact .dd (.inr ⟨k, by omega, hk, rfl⟩) hH (mapOd_ok (fun r e => gcV_ok s d r e) l e1)
        · cases e
      | tup hh l =>
        obtain ⟨ys, e1, rfl⟩ := Option.map_eq_some_iff.mp e
        exact .tup hh (mapO_ok (fun r e => gcV_ok s d r e) l e1)
      | lst f hh l =>
        obtain ⟨ys, e1, rfl⟩ := Option.map_eq_some_iff.mp e
        exact .lst (.inl f) hh (mapO_ok (fun r e => gcV_ok s d r e) l e1)
      | _ => cases e
theorem okOld_get {n : Nat} : ∀ {as bs : Sto} {i : Nat} {a : MO}, okOld n as bs = true → as[i]? = some a → (∃ b, bs[i]? = some b ∧ a = b) ∨ lowM n a = true
  | [], _, _, _, _, e => by simp at e
  | a :: as, b :: bs, 0, x, h, e => by
    simp only [okOld, Bool.and_eq_true, Bool.or_eq_true] at h
    simp at e; subst e
    exact h.1.elim (fun z => .inl ⟨b, rfl, MO.eqb_ok z⟩) .inr
  | a :: as, b :: bs, i + 1, x, h, e => by
    simp only [okOld, Bool.and_eq_true, Bool.or_eq_true] at h
    simpa using okOld_get (i := i) h.2 (by simpa using e)
  | a :: as, [], _, _, h, _ => by simp [okOld] at h
theorem MOk.low {a : Addr} {m : MO} (h : MOk K g H a m) : lowM g.n m = true := by
  cases m with
  | lst xs => obtain ⟨vs, _, l⟩ := h; exact lows_of l
  | dct xs => obtain ⟨vs, _, l⟩ := h; exact lowk_of l
  | dd xs => obtain ⟨vs, _, l⟩ := h; exact lowd_of l
  | dead => rfl
/-- leaving a def -/
theorem gc_ok {T : String → Value} {E : XK} {st s : Sto} {x : PV} {v : V} {Q : VK} {g0 : G} {H0 : Hp} (s0 : StOk K g0 H0 st) (e : Ext g0 H0 g H) (s1 : StOk K g H s) (r : RV K g H x v) (h : okR T K (rV K) g0 H0 (gc st x s) Q E) : Q v H := by
  unfold gc at h
  split at h
  · rename_i y ey
    split at h
    · rename_i hf
      simp only [Bool.and_eq_true, decide_eq_true_eq] at hf
      obtain ⟨hl, ho⟩ := hf
      have hn : st.length ≤ g.n := by rw [s1.len]; exact hl
      have c := cut_cut g st.length
      refine okR.finE (g' := g.cut st.length) h ⟨⟨by rw [s0.len]; exact Nat.le_refl _, fun k hk => e.f k hk, fun a ha => ⟨.inl (e.F a ha).1, (e.F a ha).2⟩, e.t⟩, fun a ha => e.P a ha⟩ ⟨?_, fun i j hi hj q => s1.inj i j (Nat.lt_of_lt_of_le hi hn) (Nat.lt_of_lt_of_le hj hn) q, fun i m q al z => ?_, fun a z => ?_, fun a z => ⟨(s1.pr a z).1, fun w => ?_, fun i hi => (s1.pr a z).2.2 i (Nat.lt_of_lt_of_le hi hn)⟩, fun i m q => ?_, s1.tb⟩ (gcV_ok s1 4 r ey)
      · show st.length = _
        rw [List.length_take]; omega
      · have hi : i < st.length := by
          have := (List.getElem?_eq_some_iff.mp q).1
          rw [List.length_take] at this; omega
        rw [List.getElem?_take_of_lt hi] at q
        rcases z with z | ⟨k, h1, h2, h3⟩
        · exact s1.sep i m q al z
        · have := s1.inj i k (s1.lt q) h2 h3
          omega
      · rcases z with z | ⟨k, h1, h2, h3⟩
        · exact s1.fz a z
        · subst h3
          have h4 : k < s.length := by rw [← s1.len]; exact h2
          exact (s1.at_ k s[k] (List.getElem?_eq_getElem h4)).nt
      · rcases w with w | ⟨k, h1, h2, h3⟩
        · exact (s1.pr a z).2.1 w
        · exact (s1.pr a z).2.2 k h2 h3.symm
      · have hi : i < st.length := by
          have := (List.getElem?_eq_some_iff.mp q).1
          rw [List.length_take] at this; omega
        have q' := q
        rw [List.getElem?_take_of_lt hi] at q'
        have lo : lowM st.length m = true := by
          rcases okOld_get ho q with ⟨b, hb, rfl⟩ | z
          · have := (s0.at_ i _ hb).low
            rw [s0.len] at this
            exact this
          · exact z
        have := s1.at_ i m q'
        cases m with
        | lst xs => obtain ⟨vs, hh, l⟩ := this; exact ⟨vs, hh, lows_ok c l lo⟩
        | dct xs => obtain ⟨vs, hh, l⟩ := this; exact ⟨vs, hh, lowk_ok c l lo⟩
        | dd xs => obtain ⟨vs, hh, l⟩ := this; exact ⟨vs, hh, lowd_ok c l lo⟩
        | dead => exact this
    · exact h.elim
  · exact h.elim
end
end Sim
set_option Elab.async false
set_option linter.all false
set_option maxRecDepth 100000
set_option maxHeartbeats 4000000
namespace Sim
open PySem PySem.Spec PyProof.Rows L2
variable [Tb] [Lm]
/-! ### defs: as the layer's contracts, but nothing is being shown (str) where they run -/
def Gd (A : Around) : Prop := A.guards = some []
theorem Gd.deeper {A : Around} (h : Gd A) (env : PySem.Env) : Gd (A.deeper env) := h
structure FnG (P : Program) (w : World) (K : PySem.W.Frag) (mg : Str → Option Value) (base : Heap) (CX : CXT) (k : Nat) (f : Addr) (fd : FuncData) (ps : List Str) (sp : Sp) : Prop where
  many : ∀ vs H Q E, sp vs H Q E → vs.length = ps.length
  go : ∀ (A : Around) (outer : List PySem.Env) (s : Shared) (H : Hp) (args : Args) (us : List Value) (vs : List V) (Q : VK) (E : XK), Gd A → Room k A → Env0 P w K mg base A outer s H →
    BindsTo s fd args (ps.zip us) → Vals vs us → sp vs H Q E → codeAny (model P w) A (.call (.ref f) args) (CR CX outer P w H s Q E) s
theorem FnG.up {P : Program} {w : World} {K : PySem.W.Frag} {mg : Str → Option Value} {base : Heap} {CX : CXT} {j k : Nat} {f : Addr} {fd : FuncData} {ps : List Str} {sp : Sp} (F : FnG P w K mg base CX j f fd ps sp)
    (h : j ≤ k) : FnG P w K mg base CX k f fd ps sp :=
  ⟨F.many, fun A outer s H args us vs Q E gd hr => F.go A outer s H args us vs Q E gd (hr.mono h)⟩
section
variable {X : Cx} {CX : CXT} {k : Nat} {f : Addr} {fd : FuncData} {ps ks : List Str} {sp : Sp} {dvs : List V} {ds : List Value} {E : XK} {x : Str} {p pos : Pos} {e : Expr} {es : List Expr} {kws : List Keyword} {t tk : TA}
theorem goG {pins : List (Addr × Obj)} {σ : L2.St} {H : Hp} {s : Shared} {Q : VK} {us us' : List Value} {kw : List (Str × Value)} {vs : List V} (F : FnG X.prog X.w X.K X.mg X.base CX k f fd ps sp) (gd : Gd X.A) (hr : Room k X.A)
    (hx : Passes CX X E) (I : Inv X pins σ H s) (hb : (us').length = ps.length → BindsTo s fd ⟨us, kw⟩ (ps.zip us')) (r : Vals vs us') (h : sp vs H Q E) : wpAny (model X.prog X.w) X.A (call (.ref f) us kw) (EP X pins σ Q) X.xe s := by
  have hl : us'.length = ps.length := r.length.symm.trans (F.many _ _ _ _ h)
  have c := F.go X.A X.stack s H ⟨us, kw⟩ us' vs Q E gd hr I.env0 (hb hl) r h
  refine wpAny_call (codeAny_mono c ?_)
  intro res s' hq
  match res, hq with
  | .error er, hq => exact hx pins σ H s er s' I hq
  | .ok (.ret u), hq => exact I.after hq
theorem pe_callG (F : FnG X.prog X.w X.K X.mg X.base CX k f fd ps sp) (gd : Gd X.A) (hr : Room k X.A) (hg : Gl X x) (hm : X.mg x = some (.ref f)) (hk : PySem.W.keepIn X.K (.ref f) = true) (hb : Binds X.K fd ps ds)
    (hd : Vals dvs ds) (hx : Passes CX X E) (ha : PA X (e :: es) t) (hdb : (x == ("__debug__" : Str)) = false := by decide)
    (he : starEach (e :: es) X.env = (false, eval e X.env) :: starEach es X.env := by rfl) (hpl : (backTo pos (starEach es X.env)).any (·.1) = false := by rfl) : PE X (.Call (.Name x p) (e :: es) [] pos) (tCall sp dvs E t) := by
  constructor
  intro pins s σ H Q I h
  apply wpAny_Call_Name_kw
  refine ld_glob I hg hm ?_ hdb
  have args := ha.run pos pins s σ H _ I h
  refine PySem.W.callWith_K (h₀ := X.base) I.ok.mod.kin hk (thn args ?_) he hpl
  rintro us s1 ⟨vs, H1, I1, r, q⟩
  exact ⟨I1.kIn, goG F gd hr hx I1 (fun hl => hb s1 us I1.kIn hl) (r.append hd) q⟩
theorem pe_callG0 (F : FnG X.prog X.w X.K X.mg X.base CX k f fd ps sp) (gd : Gd X.A) (hr : Room k X.A) (hg : Gl X x) (hm : X.mg x = some (.ref f)) (hk : PySem.W.keepIn X.K (.ref f) = true) (hb : Binds X.K fd ps ds)
    (hd : Vals dvs ds) (hx : Passes CX X E) (hdb : (x == ("__debug__" : Str)) = false := by decide) : PE X (.Call (.Name x p) [] [] pos) (tCall sp dvs E tNil) := by
  constructor
  intro pins s σ H Q I h
  apply wpAny_Call_Name_kw
  refine ld_glob I hg hm ?_ hdb
  have b := fun hl => hb s [] I.kIn hl
  exact PySem.W.callWith_K0 I.kIn hk (goG (us := []) F gd hr hx I b (Vals.append .nil hd) h)
variable {gf : List Value → List Value → List Value} {gV : List V → List V → List V}
end
/-- a def of the text keeps its promise, by its body -/
theorem fnG_of {CX : CXT} {P : Program} {w : World} {K : PySem.W.Frag} {mg : Str → Option Value} {base : Heap} {k : Nat} {f : Addr} {x qual : Str} {st : Stmt} {fd : FuncData} {N ps : List Str} {sp : Sp} (F : Fun K x qual st f fd) (S : FnScope N ps (defScope st))
    (many : ∀ vs H Q E, sp vs H Q E → vs.length = ps.length)
    (hbody : ∀ (cdv : Value) (A : Around) (outer : List PySem.Env) (s : Shared) (H : Hp) (vs : List V) (Q : VK) (E : XK), Gd (A.deeper (envOfC qual (defScope st) s.heap.objs.size f cdv)) → Room k (A.deeper (envOfC qual (defScope st) s.heap.objs.size f cdv)) → sp vs H Q E →
      ∃ t, PSs (cxOf CX P w K mg base N qual (defScope st) f cdv A outer s H E) (defBody st) t ∧ t { nx := fun _ H' => Q .non H', rt := Q } (L2.start N vs) H) : FnG P w K mg base CX (k + 1) f fd ps sp := by
  obtain ⟨oc, od, kV, doc, pm, an, cdv, ct, osl, rfl, lk, hcd⟩ := F.ex
  constructor
  · exact many
  intro A outer s H args us vs Q E gd hr e0 hb r hsp
  have hl := many _ _ _ _ hsp
  have old : ∀ b o, base.get? b = some o → s.heap.get? b = some o := fun b o e => (e0.bs b o e).1
  have KX : K.In s.heap := e0.mod.kin.keeps old
  have lim : s.heap.NoLimit := e0.mod.nolimit.keeps old
  have hkind : ∀ y ∈ ps.zip us, (defScope st).names.lookup y.1 = some .local ∨ ((defScope st).names.lookup y.1 = some .cell ∧ ((cellsFrom (s.heap.objs.size + 1) (defScope st).names []).lookup y.1).isSome = true) := by
    rintro ⟨n, v⟩ hy
    have q := S.par n (List.of_mem_zip hy).1
    exact q.imp id fun q => ⟨q, PySem.W.cellsFrom_some _ _ _ (.inl q)⟩
  have cr := PySem.W.codeRec_of KX hcd
  refine codeAny_call_function hr.depth (KX _ _ lk) rfl S.co S.gen rfl cr (hb _ _ _ _ ?_)
  refine wpAny_newFunctionEnv_cells S.kind hkind ?_
  intro env he s1 xx
  subst he
  refine ⟨lim.keeps xx.toInCall.keep, codeAny_func ?_⟩
  obtain ⟨t, ht, hq⟩ := hbody cdv A outer s H vs Q E (gd.deeper _) (hr.deeper _) hsp
  have I := inv_start (CX := CX) (P := P) (w := w) (mg := mg) (N := N) (qual := qual) (f := f) (E := E) S hr.hd e0 hl r xx
  have run := ht.run [] s1 (L2.start N vs) H _ I hq
  refine wpAny_mono run ?_ fun e s' hs => hs
  intro fl s' hs
  match fl, hs with
  | .ret u, ⟨v, σ', H', J, rv, q⟩ => exact ⟨v, H', J.os, J.bare, J.base, J.hok, rv, q⟩
  | .next, ⟨σ', H', J, q⟩ => exact ⟨V.non, H', J.os, J.bare, J.base, J.hok, rfl, q⟩
  | .brk, ⟨_, _, _, q⟩ => exact q.elim
  | .cont, ⟨_, _, _, q⟩ => exact q.elim
/-! ### a def's promise by its mirror -/
abbrev MF := List PV → Sto → Res PV
def spM (T : String → Value) (K : PySem.W.Frag) (n : Nat) (F : MF) : Sp := fun vs H Q E => vs.length = n ∧ ∃ g st xs, StOk K g H st ∧ RVL K g H xs vs ∧ okR T K (rV K) g H (F xs st) Q E
/-- the body run, then what it made is dropped -/
def defM (n : Nat) (b : MS) : MF := fun xs st => match b (xs.map some ++ List.replicate (n - xs.length) none) st with
  | .rt x s => gc st x s
  | .nx _ s => gc st .non s
  | _ => .bad
/-- a frame that was handed no lambda -/
abbrev lm0 : Lm := ⟨fun _ => none⟩
omit [Lm] in
theorem env_start {K : PySem.W.Frag} {g : G} {H : Hp} {N : List Str} {xs : List PV} {vs : List V} (l : RVL K g H xs vs) : letI : Lm := lm0; EnvOk K g H (xs.map some ++ List.replicate (N.length - xs.length) none) (L2.start N vs) := by
  letI : Lm := lm0
  have hl := l.length
  refine ⟨by unfold L2.start; simp [hl], fun i x q => ?_, fun i a q => nomatch q⟩
  unfold L2.start
  by_cases hi : i < xs.length
  · rw [List.getElem?_append_left (by simpa using hi), List.getElem?_map, Option.map_eq_some_iff] at q
    obtain ⟨y, q1, q2⟩ := q
    cases q2
    obtain ⟨v, h1, r⟩ := l.get q1
    refine ⟨v, ?_, r⟩
    rw [List.getElem?_append_left (by simpa [← hl] using hi), List.getElem?_map, h1]
    rfl
  · rw [List.getElem?_append_right (by simpa using hi)] at q
    rw [List.getElem?_replicate] at q
    split at q <;> cases q
end Sim
set_option Elab.async false
set_option linter.all false
set_option maxRecDepth 100000
set_option maxHeartbeats 4000000
namespace Sim
open PySem PySem.Spec PyProof.Rows L2
variable [Tb] [Lm]
/-! ### calls -/
def fnN (n : Nat) (F : MF) : SeN := fun xs st => if xs.length = n then F xs st else .bad
section
variable {X : Cx} {T : String → Value} {E : XK} {k n : Nat} {f : Addr} {fd : FuncData} {ps ks : List Str} {F : MF} {x : Str} {p pos : Pos} {e : Expr} {es : List Expr} {ms : ML} {kws : List Keyword}
/-- what is known of a def that is called by its name -/
structure Dn (X : Cx) (T : String → Value) (CX : CXT) (x : Str) (k : Nat) (f : Addr) (fd : FuncData) (ps : List Str) (F : MF) : Prop where
  fn : FnG X.prog X.w X.K X.mg X.base CX k f fd ps (spM T X.K ps.length F)
  mg : X.mg x = some (.ref f)
  kp : PySem.W.keepIn X.K (.ref f) = true
theorem pass00 {X : Cx} {E : XK} : Passes CX0 X E := fun _ _ _ _ _ _ _ h => h.elim
theorem x_call (d : Dn X T CX0 x k f fd ps F) (gd : Gd X.A) (hr : Room k X.A) (hg : Gl X x) (hb : Binds X.K fd ps []) (ha : AX X T E (e :: es) ms) (hdb : (x == ("__debug__" : Str)) = false := by decide)
    (he : starEach (e :: es) X.env = (false, eval e X.env) :: starEach es X.env := by rfl) (hpl : (backTo pos (starEach es X.env)).any (·.1) = false := by rfl) : EX X T E (.Call (.Name x p) (e :: es) [] pos) (mApp (fnN ps.length F) ms) :=
  pe_imp (pe_callG (E := E) d.fn gd hr hg d.mg d.kp hb .nil pass00 ha hdb he hpl) fun σ H Q ⟨g, st, env, s, en, h⟩ => tl_of s en h fun g1 H1 st1 xs vs e1 s1 en1 r1 h1 => by
    simp only [fnN] at h1
    split at h1
    · rename_i hl
      rw [List.append_nil]
      exact ⟨by rw [← r1.length]; exact hl, g1, st1, xs, s1, r1, h1⟩
    · exact h1.elim
theorem x_call0 (d : Dn X T CX0 x k f fd [] F) (gd : Gd X.A) (hr : Room k X.A) (hg : Gl X x) (hb : Binds X.K fd [] []) (hdb : (x == ("__debug__" : Str)) = false := by decide) : EX X T E (.Call (.Name x p) [] [] pos) (mApp (fnN 0 F) mNil) :=
  pe_imp (pe_callG0 (E := E) d.fn gd hr hg d.mg d.kp hb .nil pass00 hdb) fun σ H Q ⟨g, st, env, s, en, h⟩ => ⟨rfl, g, st, [], s, .nil, h⟩
/-! all arguments by name -/
abbrev KX (X : Cx) (T : String → Value) (E : XK) (ks : List Keyword) (m : ML) : Prop := PK X ks (TL T X.K E m)
/-! built-in functions and types -/
theorem x_callB {id : String} {r : List V → Hp → VK → Prop} {fs : SeN} (hc : CallR X (.builtin id) r) (hs : SN T X.K E r fs) (hg : Gl X x) (hm : X.mg x = none) (hv : bootBuiltins x = some (.builtin id)) (ha : AX X T E (e :: es) ms)
    (hn : x ≠ "__name__" := by decide) (hdb : (x == ("__debug__" : Str)) = false := by decide) (he : starEach (e :: es) X.env = (false, eval e X.env) :: starEach es X.env := by rfl) (hpl : (backTo pos (starEach es X.env)).any (·.1) = false := by rfl) :
    EX X T E (.Call (.Name x p) (e :: es) [] pos) (mApp fs ms) :=
  pe_imp (pe_callB hc hg hm hv ha hn hdb he hpl) fun σ H Q ⟨g, st, env, s, en, h⟩ => tl_of s en h fun g1 H1 st1 xs vs e1 s1 en1 r1 h1 => hs g1 H1 st1 xs vs Q s1 r1 h1
theorem x_callTy {id : String} {r : List V → Hp → VK → Prop} {fs : SeN} (hc : CallR X (.type id) r) (hs : SN T X.K E r fs) (hg : Gl X x) (hm : X.mg x = none) (hv : bootBuiltins x = some (.type id)) (ha : AX X T E (e :: es) ms)
    (hn : x ≠ "__name__" := by decide) (hdb : (x == ("__debug__" : Str)) = false := by decide) (he : starEach (e :: es) X.env = (false, eval e X.env) :: starEach es X.env := by rfl) (hpl : (backTo pos (starEach es X.env)).any (·.1) = false := by rfl) :
    EX X T E (.Call (.Name x p) (e :: es) [] pos) (mApp fs ms) :=
  pe_imp (pe_callTy hc hg hm hv ha hn hdb he hpl) fun σ H Q ⟨g, st, env, s, en, h⟩ => tl_of s en h fun g1 H1 st1 xs vs e1 s1 en1 r1 h1 => hs g1 H1 st1 xs vs Q s1 r1 h1
/-- a built-in class as a value -/
theorem x_ty {n : String} (hg : Gl X x) (hm : X.mg x = none) (hv : bootBuiltins x = some (.type n)) (hn : x ≠ "__name__" := by decide) (hdb : (x == ("__debug__" : Str)) = false := by decide) : EX X T E (.Name x pos) (mC (.raw (.ty n))) :=
  x_C (pe_bltn hg hm hv (show RelV (.ty n) (.type n) from rfl) hn hdb) fun _ _ => .raw _
end
def sLen : SeN := fun xs st => match xs with
  | [.str z] => if decide (z.length ≤ 16777216) then .ok (.int z.length) st else .bad
  | [x] => match asS st x with
    | some ys => .ok (.int ys.length) st
    | none => .bad
  | _ => .bad
def tys : List String := ["NoneType", "bool", "int", "str", "tuple", "list", "dict"]
def isTy (t c : String) : Bool := t == c || (t == "bool" && c == "int")
def sIsi : SeN := fun xs st => match xs with
  | [x, .raw (.ty c)] => match tyName st x with
    | some t => if tys.contains t && tys.contains c then .ok (.bl (isTy t c)) st else .bad
    | none => .bad
  | _ => .bad
def sInt : SeN := fun xs st => match xs with
  | [.int i] => .ok (.int i) st
  | [.bl b] => .ok (.int (if b then 1 else 0)) st
  | _ => .bad
def sTuple : SeN := fun xs st => match xs with
  | [.tup ys] => .ok (.tup ys) st
  | [x] => match asL st x with
    | some ys => .ok (.tup ys) st
    | none => .bad
  | _ => .bad
def asBs : List PV → Option (List Bool)
  | [] => some []
  | .bl b :: r => (asBs r).map (b :: ·)
  | _ => none
def asStrs : List PV → Option (List Str)
  | [] => some []
  | .str b :: r => (asStrs r).map (b :: ·)
  | _ => none
def sAll : SeN := fun xs st => match xs with
  | [x] => match (asL st x).bind asBs with
    | some bs => .ok (.bl (bs.all id)) st
    | none => .bad
  | _ => .bad
def sMax2 : SeN := fun xs st => match xs with
  | [.int i, .int j] => .ok (.int (if j > i then j else i)) st
  | _ => .bad
def sMin2 : SeN := fun xs st => match xs with
  | [.int i, .int j] => .ok (.int (if j < i then j else i)) st
  | _ => .bad
section
variable {K : PySem.W.Frag} {g : G} {H : Hp}
theorem asBs_ok : ∀ {xs : List PV} {bs : List Bool}, asBs xs = some bs → xs = bs.map .bl
  | [], _, e => by cases e; rfl
  | .bl b :: r, _, e => by
    simp only [asBs, Option.map_eq_some_iff] at e
    obtain ⟨cs, e1, rfl⟩ := e
    rw [asBs_ok e1]; rfl
  | .non :: _, _, e | .int _ :: _, _, e | .str _ :: _, _, e | .tup _ :: _, _, e | .lst _ :: _, _, e | .dct _ :: _, _, e | .ref _ :: _, _, e | .raw _ :: _, _, e | .rol _ :: _, _, e | .wtp _ :: _, _, e | .err _ :: _, _, e => by cases e
theorem asStrs_ok : ∀ {xs : List PV} {bs : List Str}, asStrs xs = some bs → xs = bs.map .str
  | [], _, e => by cases e; rfl
  | .str b :: r, _, e => by
    simp only [asStrs, Option.map_eq_some_iff] at e
    obtain ⟨cs, e1, rfl⟩ := e
    rw [asStrs_ok e1]; rfl
  | .non :: _, _, e | .bl _ :: _, _, e | .int _ :: _, _, e | .tup _ :: _, _, e | .lst _ :: _, _, e | .dct _ :: _, _, e | .ref _ :: _, _, e | .raw _ :: _, _, e | .rol _ :: _, _, e | .wtp _ :: _, _, e | .err _ :: _, _, e => by cases e
theorem kit_tab : (tys.all fun t => tys.all fun c => kitB t c == some (isTy t c)) = true := by decide +kernel
theorem kit_of' {t c : String} (h : (tys.contains t && tys.contains c) = true) : kitB t c = some (isTy t c) := by
  rw [Bool.and_eq_true, List.contains_iff_mem, List.contains_iff_mem] at h
  have := kit_tab
  rw [List.all_eq_true] at this
  have := this t h.1
  rw [List.all_eq_true] at this
  exact eq_of_beq (this c h.2)
end
section
variable {X : Cx} {T : String → Value} {E : XK}
theorem one_of {K : PySem.W.Frag} {g : G} {H : Hp} {x : PV} {vs : List V} (l : RVL K g H [x] vs) : ∃ v, vs = [v] ∧ RV K g H x v := by
  cases l with
  | cons r l => cases l; exact ⟨_, rfl, r⟩
theorem two_of {K : PySem.W.Frag} {g : G} {H : Hp} {x y : PV} {vs : List V} (l : RVL K g H [x, y] vs) : ∃ v u, vs = [v, u] ∧ RV K g H x v ∧ RV K g H y u := by
  cases l with
  | cons r l => obtain ⟨u, rfl, r2⟩ := one_of l; exact ⟨_, _, rfl, r, r2⟩
theorem n_len : SN T X.K E (fun xs H Q => ∃ x n, xs = [x] ∧ LenV X.K x H n ∧ Q (.int n) H) sLen := by
  intro g H st xs vs Q s l h
  unfold sLen at h
  split at h
  · obtain ⟨v, rfl, r⟩ := one_of l
    cases r
    split at h
    · rename_i hf
      exact ⟨_, _, rfl, ⟨by rw [sizeLine_eq]; exact of_decide_eq_true hf, rfl⟩, okR.fin h s (.int _)⟩
    · exact h.elim
  · obtain ⟨v, rfl, r⟩ := one_of l
    split at h
    · rename_i ys e
      obtain ⟨a, ws, rfl, hq, l2⟩ := asS_ok s r e
      refine ⟨_, ys.length, rfl, ?_, okR.fin h s (.int _)⟩
      rw [l2.length]
      exact hq.imp (fun z => ⟨ws, z, rfl⟩) fun z => ⟨ws, z, rfl⟩
    · exact h.elim
  · exact h.elim
theorem n_isi : SN T X.K E (rIsi X.K) sIsi := by
  intro g H st xs vs Q s l h
  unfold sIsi at h
  split at h
  · rename_i x c
    obtain ⟨v, u, rfl, r, r2⟩ := two_of l
    cases r2
    split at h
    · rename_i t e
      split at h
      · rename_i hf
        exact ⟨v, _, _, _, _, rfl, .ty c, tyName_ok s r e, kit_ty (kit_of' hf), okR.fin h s (.bl _)⟩
      · exact h.elim
    · exact h.elim
  · exact h.elim
theorem n_int : SN T X.K E (fun xs H Q => (∃ i, xs = [.int i] ∧ Q (.int i) H) ∨ ∃ k, xs = [.bl k] ∧ Q (.int (if k then 1 else 0)) H) sInt := by
  intro g H st xs vs Q s l h
  unfold sInt at h
  split at h
  · obtain ⟨v, rfl, r⟩ := one_of l
    cases r
    exact .inl ⟨_, rfl, okR.fin h s (.int _)⟩
  · obtain ⟨v, rfl, r⟩ := one_of l
    cases r
    exact .inr ⟨_, rfl, okR.fin h s (.int _)⟩
  · exact h.elim
theorem n_tuple : SN T X.K E (fun xs H Q => ∃ p ys, xs = [.ref p] ∧ ((SqL X.K H p ys ∧ NewT ys H Q) ∨ (SqT X.K H p ys ∧ Q (.ref p) H))) sTuple := by
  intro g H st xs vs Q s l h
  unfold sTuple at h
  split at h
  · obtain ⟨v, rfl, r⟩ := one_of l
    obtain ⟨a, ws, rfl, hq, l2⟩ := asT_ok r rfl
    exact ⟨a, ws, rfl, .inr ⟨hq.t, okR.fin h s (.tup hq l2)⟩⟩
  · obtain ⟨v, rfl, r⟩ := one_of l
    split at h
    · rename_i ys e
      obtain ⟨a, ws, rfl, hq, l2⟩ := asL_ok s r e
      exact ⟨a, ws, rfl, .inl ⟨hq, giveT s l2 h⟩⟩
    · exact h.elim
  · exact h.elim
theorem n_all : SN T X.K E (rAll X.K) sAll := by
  intro g H st xs vs Q s l h
  unfold sAll at h
  split at h
  · obtain ⟨v, rfl, r⟩ := one_of l
    split at h
    · rename_i bs e
      obtain ⟨ys, e1, e2⟩ := Option.bind_eq_some_iff.mp e
      obtain ⟨a, ws, rfl, hq, l2⟩ := asL_ok s r e1
      cases asBs_ok e2
      cases l2.bools
      exact ⟨a, bs, rfl, hq, okR.fin h s (.bl _)⟩
    · exact h.elim
  · exact h.elim
theorem n_max2 : SN T X.K E (fun xs H Q => ∃ i j, xs = [.int i, .int j] ∧ Q (.int (if j > i then j else i)) H) sMax2 := by
  intro g H st xs vs Q s l h
  unfold sMax2 at h
  split at h
  · obtain ⟨v, u, rfl, r, r2⟩ := two_of l
    cases r; cases r2
    exact ⟨_, _, rfl, okR.fin h s (.int _)⟩
  · exact h.elim
theorem n_min2 : SN T X.K E (fun xs H Q => ∃ i j, xs = [.int i, .int j] ∧ Q (.int (if j < i then j else i)) H) sMin2 := by
  intro g H st xs vs Q s l h
  unfold sMin2 at h
  split at h
  · obtain ⟨v, u, rfl, r, r2⟩ := two_of l
    cases r; cases r2
    exact ⟨_, _, rfl, okR.fin h s (.int _)⟩
  · exact h.elim
/-! methods of a list of the store -/
def sApp (x y : PV) (st : Sto) : Res PV := match x with
  | .ref k => match st[k]? with
    | some (.lst xs) => if decide (xs.length < 16777216) then .ok .non (st.set k (.lst (xs ++ [y]))) else .bad
    | _ => .bad
  | _ => .bad
def isLst (x : PV) (st : Sto) : Bool := match x with
  | .ref k => match st[k]? with
    | some (.lst _) => true
    | _ => false
  | _ => false
def mAppend (a b : M) : M := fun env st => (a env st).bind fun x s1 => if isLst x s1 = true then (b env s1).bind fun y s2 => sApp x y s2 else .bad
variable {o e : Expr} {m m' : M} {apos pos : Pos}
theorem ref_of {K : PySem.W.Frag} {g : G} {H : Hp} {st : Sto} {k : Nat} {v : V} (s : StOk K g H st) {xs : List PV} (q : st[k]? = some (.lst xs)) (r : RV K g H (.ref k) v) : v = .ref (g.f k) ∧ ∃ vs, H (g.f k) = some (.lst vs) ∧ RVL K g H xs vs := by
  cases r with
  | ref hk => exact ⟨rfl, s.at_ k _ q⟩
theorem tyV_lst {K : PySem.W.Frag} {H : Hp} {a : Addr} {vs : List V} (h : H a = some (.lst vs)) : tyV K "list" (.ref a) H := .inl ⟨rfl, _, .of h⟩
theorem isLst_ok {K : PySem.W.Frag} {g : G} {H : Hp} {st : Sto} {x : PV} {v : V} (s : StOk K g H st) (r : RV K g H x v) (e : isLst x st = true) : tyV K "list" v H := by
  unfold isLst at e
  split at e
  · split at e
    · rename_i q
      obtain ⟨rfl, vs, hH, _⟩ := ref_of s q r
      exact tyV_lst hH
    · cases e
  · cases e
theorem recv {E' : XK} {m m' : M} {f : PV → PV → Sto → Res PV} {g : G} {H : Hp} {σ : L2.St} {env : Lo} {st : Sto} {Q : VK} {r : V → List V → Hp → VK → Prop} (s : StOk X.K g H st) (en : EnvOk X.K g H env σ)
    (h : okR T X.K (rV X.K) g H ((m env st).bind fun x s1 => if isLst x s1 = true then (m' env s1).bind fun y s2 => f x y s2 else .bad) Q E)
    (hf : ∀ g H st x y v u, StOk X.K g H st → RV X.K g H x v → RV X.K g H y u → okR T X.K (rV X.K) g H (f x y st) Q E → r v [u] H Q) :
    tBM X.K "list" r (TV T X.K E m) (TL T X.K E (mCons m' mNil)) σ H Q := by
  refine tv_of s en h fun g1 H1 st1 x v e1 s1 en1 r1 h1 => ?_
  split at h1
  · rename_i hl
    refine ⟨isLst_ok s1 r1 hl, ?_⟩
    have hh : okR T X.K (rV X.K) g1 H1 ((mCons m' mNil env st1).bind fun ys s2 => match ys with
      | [y] => f x y s2
      | _ => .bad) Q E := by
      simp only [mCons, mNil]
      cases q : m' env st1 with
      | ok y s2 => rw [q] at h1; exact h1
      | exc n fs s2 => rw [q] at h1; exact h1
      | bad => rw [q] at h1; exact h1
    refine tl_of s1 en1 hh fun g2 H2 st2 ys us e2 s2 en2 r2 h2 => ?_
    split at h2
    · obtain ⟨u, rfl, ry⟩ := one_of r2
      exact hf g2 H2 st2 x _ v u s2 (r1.mono e2) ry h2
    · exact h2.elim
  · exact h1.elim
theorem x_append (ho : EX X T E o m) (ha : EX X T E e m') (na : starEach (e :: []) X.env = (false, eval e X.env) :: starEach [] X.env := by rfl)
    (hp : ∀ {to : TE} {t : TA}, PE X o to → PA X [e] t → PE X (.Call (.Attribute o "append" apos) [e] [] pos) (tBM X.K "list" rAppend to t)) : EX X T E (.Call (.Attribute o "append" apos) [e] [] pos) (mAppend m m') :=
  pe_imp (hp ho (x_cons ha x_nil na)) fun σ H Q ⟨g, st, env, s, en, h⟩ => recv (E' := E) s en h fun g H st x y v u s r1 r2 h => by
    unfold sApp at h
    split at h
    · split at h
      · rename_i k xs q
        split at h
        · rename_i hf
          obtain ⟨rfl, vs, hH, l⟩ := ref_of s q r1
          have xe := ext_write (o := .lst (vs ++ [u])) s q rfl
          refine ⟨_, vs, u, rfl, rfl, hH, by rw [← l.length, sizeLine_eq]; exact of_decide_eq_true hf, ?_⟩
          exact okR.finE h xe (st_write s q rfl ⟨_, upd_same, (l.append (.cons r2 .nil)).mono xe⟩) .non
        · exact h.elim
      · exact h.elim
    · exact h.elim
end
end Sim
set_option Elab.async false
set_option linter.all false
set_option maxRecDepth 100000
set_option maxHeartbeats 4000000
namespace Sim
open PySem PySem.Spec PyProof.Rows L2
/-! ### the law's end -/
/-- the script as the law is handed it -/
def scriptP (ns : List Int) : PV := .rol (ns.map .int)
/-- no lambdas -/
abbrev tb0 (w : World) : Tb := ⟨[], fun k => k.hash w⟩
theorem law_end {T : World → String → Value} {l : PySem.W.OpenLaw} {n k : Nat} {q : Program} {loose : List Str} {XP : (Str → Option Value) → Heap → Prop} {YP : World → Heap → Prop} {d : DefRec} {K : Params → PySem.W.Frag} {x : Str} {F : MF}
    (hn : l.most = some n) (hn2 : n ≤ sizeLine) (hdf : d.params.defaults = []) (hr : Room k callerA) (hY : ∀ (w : World) (h : Heap), YP w h → (K w.params).In h)
    (hF : ∀ (w : World) (mg : Str → Option Value) (fa : Addr) (h : Heap), (K w.params).In h → h.Ns mainGlobals mg → mg d.name = some (.ref fa) →
      ∃ fd : FuncData, (∀ (s : Shared) (u : Value), BindsTo s fd ⟨[u], []⟩ [(x, u)]) ∧ ∀ base : Heap, (K w.params).In base → base.Ns mainGlobals mg → FnG l.prog w (K w.params) mg base CX0 k fa fd [x] (@spM (tb0 w) (T w) (K w.params) 1 F))
    (good : ∀ ns : List Int, ns.length ≤ n → ∃ st, F [scriptP ns] [] = .ok (.bl true) st) :
    PySem.W.WalkO q loose XP YP l.row.toRowW d [] (fun f vs => PySem.call f vs) := by
  refine Att.attach_call hn hdf ?_
  intro w s₀ s₁ mg mb fa o pm cd doc a vs ns G Y ho hd hcd hmg hobj hints hlen hg
  letI : Tb := tb0 w
  letI : Lm := lm0
  have KX := hY w _ Y
  obtain ⟨fd, hb, hfn⟩ := hF w mg fa _ KX G.T.g hmg
  have rv := vals_ints hints
  have lenV := hints.length
  have hl : ns.length ≤ sizeLine := Nat.le_trans hlen hn2
  -- what is tracked: the script, if it is no object of the module's own
  have main : ∀ H : Hp, (∀ b u, H b = some u → b = a ∧ u = .frz { cls := .type "list", data := .seq vs.toArray } (.lst (ns.map V.int)) ∧ (K w.params).lookup a = none) → (∃ g : Sim.G, StOk (K w.params) g H [] ∧ RV (K w.params) g H (scriptP ns) (.ref a)) →
      codeAny (model l.prog w) callerA (.call (.ref fa) ⟨[.ref a], []⟩) (fun r s' => r = .ok (.ret (.bool true)) ∧ OldK s₁.heap s'.heap ∧ s'.os = s₁.os ∧ AllBare s'.gens) s₁ := by
    intro H hH ⟨g, so, rs⟩
    have hid : ∀ {b : Addr} {ob : Obj}, s₁.heap.get? b = some ob → H b = none → (hidT s₁.heap H).get? b = some ob := fun e n => hidT_get e n
    have nodict : ∀ {b : Addr} {ob : Obj} {es : Array DictEntry} {ep : Nat}, s₁.heap.get? b = some ob → ob.data = .dict es ep → H b = none := by
      intro b ob es ep e dd
      cases qq : H b with
      | none => rfl
      | some u =>
        obtain ⟨rfl, _, _⟩ := hH b u qq
        rw [hobj] at e; cases e
        cases (show Data.seq vs.toArray _ = Data.dict es ep from dd)
    have ns' : ∀ {b : Addr} {m : Str → Option Value}, s₁.heap.Ns b m → (hidT s₁.heap H).Ns b m := by
      rintro b m ⟨ob, es, ep, e, dd, r⟩
      exact ⟨ob, es, ep, hid e (nodict e dd), dd, r⟩
    have hKb : (K w.params).In (hidT s₁.heap H) := by
      intro b ob e
      refine hid (KX b ob e) ?_
      cases qq : H b with
      | none => rfl
      | some u =>
        obtain ⟨rfl, _, z⟩ := hH b u qq
        rw [z] at e; cases e
    have hM : Mod (K w.params) mg (hidT s₁.heap H) := by
      refine ⟨hKb, ns' G.T.g, ⟨mb, ns' G.T.b, G.T.builtins⟩, ?_⟩
      obtain ⟨mc, h1, h2⟩ := G.T.nolimit
      exact ⟨mc, ns' h1, h2⟩
    have hokH : HOk l.prog w H s₁.heap := by
      intro b u e
      obtain ⟨rfl, rfl, _⟩ := hH b u e
      exact ⟨hobj, by rw [List.length_map]; exact hl, vs, _, rv, hobj⟩
    have e0 : Env0 l.prog w (K w.params) mg (hidT s₁.heap H) callerA [] s₁ H :=
      ⟨rfl, hM, fun b ob e => of_hidT e, Nat.le_of_eq (hidT_size _ _), trivial, fun b hb => absurd (show b ∈ ([] : List Addr) from hb) (by simp), hokH, .of_eq hg⟩
    obtain ⟨st, hgood⟩ := good ns hlen
    have sp : spM (T w) (K w.params) 1 F [.ref a] H (fun v _ => v = .bl true) E0 := by
      refine ⟨rfl, g, [], [scriptP ns], so, .cons rs .nil, ?_⟩
      rw [hgood]
      intro g' H' v _ _ r
      cases r
      rfl
    have run := (hfn _ hKb (ns' G.T.g)).go callerA [] s₁ H ⟨[.ref a], []⟩ [.ref a] [.ref a] _ E0 rfl hr e0 (hb s₁ (.ref a)) (.cons rfl .nil) sp
    refine codeAny_mono run ?_
    intro r s' h
    match r, h with
    | .ok (.ret u), ⟨v, H', os, bare, un, hok', r', qv⟩ =>
      have qv' : v = .bl true := qv
      subst qv'
      obtain rfl : u = Value.bool true := r'
      refine ⟨rfl, OldK.of_keep ?_, os, bare⟩
      intro b ob e
      cases qq : H b with
      | none => exact un.keep b ob e qq (by intro z; exact absurd (show b ∈ ([] : List Addr) from z) (by simp)) (by simp)
      | some u =>
        obtain ⟨rfl, rfl, _⟩ := hH b u qq
        have z2 := un.frzs b _ _ qq
        obtain ⟨e2, _⟩ := hok' b _ z2
        rw [hobj] at e; cases e
        exact e2
  have inil : ∀ {H : Hp} (F : Addr → Prop), (∀ a, F a → nt H a) → StOk (K w.params) ⟨0, fun _ => 0, F, fun _ => False⟩ H [] := fun F hF =>
    ⟨rfl, fun i j hi => absurd hi (Nat.not_lt_zero _), fun i m e => by simp at e, hF, fun a h => h.elim, fun i m e => by simp at e, fun p hp => nomatch hp⟩
  cases hk : (K w.params).lookup a with
  | some ob =>
    have e := KX a ob hk
    rw [hobj] at e
    cases e
    refine main (fun _ => none) (fun b u e => by cases e) ⟨_, inil (fun _ => False) (fun _ h => h.elim), .rolK (vs := ns.map V.int) (fun H' => .inr ⟨_, vs.toArray, _, hk, rfl, rfl, rfl, by rw [List.size_toArray, lenV]; exact hl, by simpa using rv⟩) (fun H' => .kList hk rfl) (RVL.ofInts ns)⟩
  | none =>
    refine main (fun b => if b = a then some (.frz { cls := .type "list", data := .seq vs.toArray } (.lst (ns.map V.int))) else none) ?_ ?_
    · intro b u e
      by_cases hb : b = a
      · rw [if_pos hb] at e
        cases e
        exact ⟨hb, rfl, hk⟩
      · rw [if_neg hb] at e
        cases e
    · refine ⟨_, inil (fun b => b = a) ?_, .rol rfl (if_pos rfl) (RVL.ofInts ns)⟩
      intro b hb
      exact ⟨_, if_pos hb, nofun⟩
instance (priority := 1) tbI : Tb := ⟨[], fun _ => 0⟩
instance (priority := 1) lmI : Lm := lm0
end Sim
set_option Elab.async false
set_option linter.all false
set_option maxRecDepth 100000
set_option maxHeartbeats 4000000
/-! a set of texts: made of a list, then sorted -/
namespace SimS
open PySem PySem.Spec PyProof.Rows L2
def txt (e : Int × Value) : Str := match e.2 with
  | .str x _ => x
  | _ => Str.empty
def IsTx (w : World) (e : Int × Value) : Prop := ∃ x t, e.2 = Value.str x t ∧ e.1 = hashStr w x
/-- a set of texts that can be walked -/
def Tx (w : World) (h : Heap) (a : Addr) (S : Str → Prop) (n : Nat) : Prop :=
  ∃ o es ep t, (h.get? a = some o ∧ o.ExactSet ∧ o.data = .set es ep t) ∧ (∀ e ∈ es.toList, IsTx w e) ∧ (es.toList.map txt).Nodup ∧ (∀ k, S k ↔ k ∈ es.toList.map txt) ∧
    t.fits es.size = true ∧ Ris t.place.toList ∧ (w.params.followText "set-order" = true ∨ t.led = true) ∧ es.size ≤ n
section
variable {P : Program} {w : World} {h h' : Heap} {a : Addr} {S : Str → Prop} {n : Nat}
theorem Tx.stay (R : Tx w h a S n) (k : ∀ o, h.get? a = some o → h'.get? a = some o) : Tx w h' a S n := by
  obtain ⟨o, es, ep, t, ⟨ho, r1⟩, r⟩ := R
  exact ⟨o, es, ep, t, ⟨k o ho, r1⟩, r⟩
theorem elems_tx {l : List (Int × Value)} (g : ∀ e ∈ l, IsTx w e) : ElemsOf (PySem.strKind P w) l := by
  intro e he
  obtain ⟨x, t, h1, h2⟩ := g e he
  refine ⟨⟨x, ?_, h2⟩, ?_⟩
  · rw [h1]; exact strKind_is P w x t
  · rw [h1] <;> rfl
theorem is_tx {e : Int × Value} (g : IsTx w e) (k : Str) : (PySem.strKind P w).is k e.2 = true ↔ txt e = k := by
  obtain ⟨x, t, h1, _⟩ := g
  unfold txt
  rw [h1]
  constructor
  · intro q
    obtain ⟨t', e2⟩ := Value.isStrOf_shape (x := k) (v := .str x t) q
    injection e2
  · intro q
    subst q
    exact strKind_is P w x t
theorem mem_tx {l : List (Int × Value)} (g : ∀ e ∈ l, IsTx w e) (k : Str) : k ∈ l.map txt ↔ ∃ e ∈ l, (PySem.strKind P w).is k e.2 = true := by
  rw [List.mem_map]
  exact ⟨fun ⟨e, he, q⟩ => ⟨e, he, (is_tx (g e he) k).2 q⟩, fun ⟨e, he, q⟩ => ⟨e, he, (is_tx (g e he) k).1 q⟩⟩
end
section
variable {P : Program} {w : World} {A : Around} {E : Value → Shared → Prop} {s : Shared} {a : Addr}
/-- what is stored behind the search -/
theorem put_tail {g : Bool → Sem Unit} (hg : ∀ (b : Bool) (s₁ : Shared) (Q' : Unit → Shared → Prop), Q' () s₁ → wpAny (model P w) A (g b) Q' E s₁) {o : Obj} {es : Array (Int × Value)} {ep : Nat} {t : SetTable}
    (ho : s.heap.get? a = some o) (hex : o.ExactSet) (hd : o.data = .set es ep t) {new : Array (Int × Value)} {t2 : SetTable} {S : Str → Prop} (g1 : ∀ e ∈ new.toList, IsTx w e) (nd : (new.toList.map txt).Nodup)
    (mm : ∀ k, S k ↔ k ∈ new.toList.map txt) (hb : new.size < scanBound) (hf : t2.fits new.size = true) (hr : Ris t2.place.toList) (hl : w.params.followText "set-order" = true ∨ t2.led = true) {dum : Bool} {R : Option Bool → Shared → Prop}
    (hR : ∀ h', Heap.SameBut a s.heap h' → Tx w h' a S new.size → R (some true) { s with heap := h' }) :
    wpAny (model P w) A (do
        storeSet a new t2
        if (!dum && t2.tooFull) = true then do
          g (relayAll t2 new (SetTable.grown new.size)).2.2
          storeSet a (relayAll t2 new (SetTable.grown new.size)).1 (relayAll t2 new (SetTable.grown new.size)).2.1
          pure (some true)
        else pure (some true)) R E s := by
  refine wpAny_bind (wpAny_storeSet_of ho hd ?_ (fits_of_scanBound hb))
  have o1 := store_at (es' := new) (t' := t2) ho hd
  have same1 := Heap.SameBut.update s.heap a (Obj.putSet new t2)
  split
  · have p := relayAll_perm t2 new (SetTable.grown new.size)
    have f3 := relayAll_fits t2 new (SetTable.grown new.size)
    have r3 := relayAll_ris t2 new (SetTable.grown new.size)
    have l3 := relayAll_led t2 new (SetTable.grown new.size)
    generalize relayAll t2 new (SetTable.grown new.size) = Z at p f3 r3 l3 ⊢
    obtain ⟨es2, t3, gave⟩ := Z
    dsimp only at p f3 r3 l3 ⊢
    have same : es2.size = new.size := by rw [← Array.length_toList, p.length_eq, Array.length_toList]
    have b2 : es2.size < scanBound := same ▸ hb
    refine wpAny_bind (hg _ _ _ ?_)
    refine wpAny_bind (wpAny_storeSet_of o1 rfl ?_ (fits_of_scanBound b2))
    have o2 := store_at (es' := es2) (t' := t3) o1 rfl
    refine wpAny_pure (hR _ (same1.trans (Heap.SameBut.update _ a _)) ⟨_, es2, _, t3, ⟨o2, hex, rfl⟩, fun e he => g1 e (p.mem_iff.mp he), ?_, fun k => ?_, f3, r3, ?_, Nat.le_of_eq same⟩)
    · exact (p.map txt).nodup_iff.mpr nd
    · rw [mm k]; exact (p.map txt).mem_iff.symm
    · rw [l3]; exact hl
  · exact wpAny_pure (hR _ same1 ⟨_, new, _, t2, ⟨o1, hex, rfl⟩, g1, nd, mm, hf, hr, hl, Nat.le_refl _⟩)
theorem add_tx {x : Str} {tk : Tok} {S : Str → Prop} {n : Nat} {Q : Bool → Shared → Prop} (R : Tx w s.heap a S n) (room : n + 1 < scanBound)
    (hQ : ∀ b h', Heap.SameBut a s.heap h' → Tx w h' a (fun k => S k ∨ k = x) (n + 1) → Q b { s with heap := h' }) : wpAny (model P w) A (setAddHashed a (.str x tk) ((PySem.strKind P w).hash x)) Q E s := by
  obtain ⟨o, es, ep, t, ⟨ho, hex, hd⟩, g, nd, hm, hf, hr, hl, hn⟩ := R
  have hroom : es.size + 1 < scanBound := Nat.lt_of_le_of_lt (Nat.succ_le_succ hn) room
  have hb : es.size < scanBound := Nat.lt_of_succ_lt hroom
  have isx : (PySem.strKind P w).is x (.str x tk) = true := strKind_is P w x tk
  have scn : (Value.str x tk).scannable = true := rfl
  have el : ElemsOf (PySem.strKind P w) es.toList := elems_tx g
  unfold setAddHashed setAddHashedIn
  refine wpAny_holding (wpAny_bind (wpAny_setState_of ho hd hf ?_))
  dsimp only
  rw [byScan_of scn hb el]
  simp only [↓reduceIte]
  unfold setAddByScan
  refine wpAny_bind ?_
  refine wpAny_bind (wpAny_rule ?_)
  refine wpAny_bind (wpAny_setScan_of isx ho hd hf el ?_)
  cases fi : List.findIdx? (fun e => (PySem.strKind P w).is x e.2) es.toList with
  | some j =>
    dsimp only
    obtain ⟨hj, pj, _⟩ := List.findIdx?_eq_some_iff_getElem.mp fi
    have hS : S x := (hm x).2 ((mem_tx (P := P) (w := w) g x).2 ⟨es.toList[j], List.getElem_mem hj, pj⟩)
    refine wpAny_pure (wpAny_pure ?_)
    refine hQ _ s.heap (Heap.SameBut.refl a s.heap) ⟨o, es, ep, t, ⟨ho, hex, hd⟩, g, nd, fun k => ?_, hf, hr, hl, Nat.le_succ_of_le hn⟩
    rw [← hm k]
    exact ⟨fun z => z.elim id fun e => e ▸ hS, .inl⟩
  | none =>
    dsimp only
    have nx : x ∉ es.toList.map txt := by
      intro z
      obtain ⟨e, he, q⟩ := (mem_tx (P := P) (w := w) g x).1 z
      have c := List.findIdx?_eq_none_iff.mp fi e he
      rw [q] at c
      cases c
    have hgw : ∀ (b : Bool) {s₁ : Shared} {Q' : Unit → Shared → Prop}, Q' () s₁ → wpAny (model P w) A (match b with | true => rule "set.scan.the-table-gave-way" | false => pure ()) Q' E s₁ := by
      intro b s₁ Q' q
      cases b
      · exact wpAny_pure q
      · exact wpAny_rule q
    have p := layNew_perm t es ((PySem.strKind P w).hash x) (.str x tk)
    have f1 := layNew_fits t es ((PySem.strKind P w).hash x) (.str x tk)
    have r1 := layNew_ris t es ((PySem.strKind P w).hash x) (.str x tk) hr
    have l1 := layNew_led t es ((PySem.strKind P w).hash x) (.str x tk)
    generalize layNew t es ((PySem.strKind P w).hash x) (.str x tk) = Z at p f1 r1 l1 ⊢
    obtain ⟨new, t1, dum, gave⟩ := Z
    dsimp only at p f1 r1 l1 ⊢
    rw [Array.toList_push] at p
    have pc : new.toList.Perm (((PySem.strKind P w).hash x, Value.str x tk) :: es.toList) := p.trans (List.perm_append_singleton _ _)
    have pk : (new.toList.map txt).Perm (x :: es.toList.map txt) := pc.map txt
    have g1 : ∀ e ∈ new.toList, IsTx w e := by
      intro e he
      rcases List.mem_cons.mp (pc.mem_iff.mp he) with z | z
      · rw [z]; exact ⟨x, tk, rfl, rfl⟩
      · exact g e z
    have nd1 : (new.toList.map txt).Nodup := pk.nodup_iff.mpr (List.nodup_cons.mpr ⟨nx, nd⟩)
    have m1 : ∀ k, (S k ∨ k = x) ↔ k ∈ new.toList.map txt := by
      intro k
      rw [hm k, pk.mem_iff, List.mem_cons]
      exact Or.comm
    have hsz : new.size = es.size + 1 := by rw [← Array.length_toList, pc.length_eq, List.length_cons, Array.length_toList]
    have hb1 : new.size < scanBound := hsz ▸ hroom
    have led1 : w.params.followText "set-order" = true ∨ t1.led = true := by rw [l1]; exact hl
    have fin : ∀ h', Heap.SameBut a s.heap h' → Tx w h' a (fun k => S k ∨ k = x) new.size → Q true { s with heap := h' } := by
      intro h' sb r
      refine hQ true h' sb ?_
      obtain ⟨o', es', ep', t', q1, q2, q3, q4, q5, q6, q7, q8⟩ := r
      exact ⟨o', es', ep', t', q1, q2, q3, q4, q5, q6, q7, by omega⟩
    refine wpAny_bind (hgw _ ?_)
    split
    · refine wpAny_bind ?_
      rw [hashByValue_scannable 8 scn]
      refine wpAny_pure ?_
      refine put_tail ?_ ho hex hd g1 nd1 m1 hb1 ?_ ?_ ?_ ?_
      · intro b s₁ Q' q; cases b <;> first | exact wpAny_pure q | exact wpAny_rule q
      · first | (split <;> first | exact f1 | exact SetTable.fits_plain_off f1) | exact f1
      · first | (split <;> exact r1) | exact r1
      · first | (split <;> exact led1) | exact led1
      · intro h' sb r; dsimp only; exact wpAny_pure (fin h' sb r)
    · refine wpAny_bind (wpAny_pure ?_)
      simp only [↓reduceIte]
      refine put_tail ?_ ho hex hd g1 nd1 m1 hb1 f1 r1 led1 ?_
      · intro b s₁ Q' q; cases b <;> first | exact wpAny_pure q | exact wpAny_rule q
      · intro h' sb r; dsimp only; exact wpAny_pure (fin h' sb r)
end
section
variable {P : Program} {w : World} {A : Around} {R : Result → Shared → Prop} {I : Addr} {fp wr : List Addr} {G : Array GenState → Array GenState → Prop} {n : Nat} {Pv : Nat → Value → Prop} {St : Nat → Shared → Prop}
/-- the walk through the list, each text added -/
theorem fill_tx (W : WalksS P w A.in1 I fp wr G n Pv St) (S : Addr) (out : S ∉ fp) (xs : List Str) (hsz : xs.length = n) (few : n + 1 < scanBound) (hval : ∀ i v, Pv i v → ∃ t, v = .str (xs.getD i Str.empty) t) :
    ∀ (k i : Nat) (s : Shared), n - i = k → i ≤ n → St i s → Tx w s.heap S (fun y => y ∈ xs.take i) i →
      (∀ s', Moved (S :: wr) G s s' → Tx w s'.heap S (fun y => y ∈ xs) n → R (.ok (.ret .none)) s') → codeAny (model P w) A (.builtin "set.update.loop" ⟨[.ref S, .ref I], []⟩) R s := by
  have notW : S ∉ wr := fun z => out (W.sub _ z)
  have sub : ∀ b ∈ wr, b ∈ S :: wr := fun b hb => List.mem_cons_of_mem _ hb
  intro k
  induction k with
  | zero =>
    intro i s hk hi hst hS hR
    obtain rfl : i = n := by omega
    refine codeAny_builtin PyProof.Rows.F.entry_set_update_loop ?_
    rw [Around.under_plainId PyProof.Rows.F.plain_set_update_loop _]
    refine (show wpAny _ A.in1 (pyNext (.ref I) >>= _) _ _ s from wpAny_bind (W.done s _ _ hst ?_))
    intro s' hm
    refine (show wpAny _ A.in1 (ret Value.none) _ _ s' from wpAny_pure (hR s' (hm.mono sub) ?_))
    have q := hS.stay (h' := s'.heap) fun o e => hm.heap S o notW e
    rw [← hsz, List.take_length] at q
    rw [hsz] at q
    exact q
  | succ k ih =>
    intro i s hk hi hst hS hR
    have lt : i < n := by omega
    refine codeAny_builtin PyProof.Rows.F.entry_set_update_loop ?_
    rw [Around.under_plainId PyProof.Rows.F.plain_set_update_loop _]
    refine (show wpAny _ A.in1 (pyNext (.ref I) >>= _) _ _ s from wpAny_bind (W.item i s _ _ lt hst ?_))
    intro v s' hP hst' hm
    obtain ⟨t, rfl⟩ := hval i v hP
    have hS' := hS.stay (h' := s'.heap) fun o e => hm.heap S o notW e
    refine (show wpAny _ A.in1 (holding [Value.str (xs.getD i Str.empty) t] (setAdd S (.str (xs.getD i Str.empty) t)) >>= _) _ _ s' from wpAny_bind (wpAny_holding ?_))
    unfold setAdd
    refine wpAny_holding (wpAny_bind ((PySem.strKind P w).pyHash (k := xs.getD i Str.empty) (strKind_is _ _ _ _) ?_))
    refine add_tx (s := { s' with toks := s'.toks + 1 }) hS' (by omega) ?_
    intro b h' sb hS2
    have hi' : i < xs.length := by omega
    have next : Tx w h' S (fun y => y ∈ xs.take (i + 1)) (i + 1) := by
      obtain ⟨o', es', ep', t', q1, q2, q3, q4, q⟩ := hS2
      refine ⟨o', es', ep', t', q1, q2, q3, fun y => ?_, q⟩
      rw [← q4 y]
      show y ∈ xs.take (i + 1) ↔ (y ∈ xs.take i ∨ y = xs.getD i Str.empty)
      rw [List.take_add_one, List.mem_append, List.getElem?_eq_getElem hi', List.getD_eq_getElem?_getD, List.getElem?_eq_getElem hi']
      simp
    have other : ∀ c, c ≠ S → h'.get? c = s'.heap.get? c := fun c hc => sb.2 c hc
    refine wpAny_pure ⟨plainId_quiet PyProof.Rows.F.plain_set_update_loop _, ih (i + 1) _ (by omega) lt (W.frame _ s' _ _ hst' (Nat.le_succ _) ?_) next ?_⟩
    · intro c hc o e
      rw [other c fun z => out (z ▸ hc)]; exact e
    · intro s'' hm'' hS''
      refine hR s'' (Moved.trans W.gtrans ((hm.mono sub).then_heap (Nat.le_succ _) ?_) hm'') hS''
      intro c o hc e
      rw [other c fun z => hc (z ▸ List.mem_cons_self)]; exact e
end
section
variable {P : Program} {w : World} {A : Around} {E : Value → Shared → Prop} {s : Shared}
theorem tx_at : ∀ {vs : List Value} {xs : List Str}, PyProof.Rows.StrsAre vs xs → ∀ (i : Nat) (v : Value), vs[i]? = some v → ∃ t, v = .str (xs.getD i Str.empty) t
  | _, _, .nil, i, v, h => by simp at h
  | _, _, .cons n t r, 0, v, h => by
    have e : Value.str n t = v := by simpa using h
    exact ⟨t, by rw [← e]; simp⟩
  | _, _, .cons n t r, i + 1, v, h => by
    obtain ⟨t', e⟩ := tx_at r i v (by simpa using h)
    exact ⟨t', by rw [e]; simp⟩
/-- the empty set as set(..) lays it -/
def bare (w : World) : Obj := { cls := .type "set", dict := none, data := .set #[] 0 (.fresh 0 0 (!w.params.followText "set-order")) }
theorem bare_tx {h : Heap} (w : World) {a : Addr} (e : h.get? a = some (bare w)) : Tx w h a (fun y => y ∈ ([] : List Str)) 0 := by
  refine ⟨_, #[], 0, _, ⟨e, ⟨rfl, rfl, rfl⟩, rfl⟩, fun e he => by simp at he, by simp, fun k => by simp, by rfl, List.Pairwise.nil, ?_, Nat.zero_le _⟩
  cases q : w.params.followText "set-order"
  · exact .inr rfl
  · exact .inl rfl
theorem call_set_tx {l : Addr} {items : Array Value} {xs : List Str} {Q : Value → Shared → Prop} (hh : A.handled = none) (hl : s.heap.IsList l items) (hi : PyProof.Rows.StrsAre items.toList xs) (few : xs.length + 1 < scanBound)
    (h : ∀ (h' : Heap) (tk : Nat), Tx w h' s.heap.objs.size (fun y => y ∈ xs) xs.length → (∀ b o, s.heap.get? b = some o → h'.get? b = some o) → Q (.ref s.heap.objs.size) { s with heap := h', toks := tk }) :
    wpAny (model P w) A (call (.type "set") [.ref l]) Q E s := by
  have hsz : xs.length = items.size := by rw [← StrsAre.len_eq hi, Array.length_toList]
  obtain ⟨c, tl, hmro⟩ := F.called_set.mro
  have m1 := F.called_set.made; have m2 := F.called_set.sub
  refine wpAny_call (codeAny_of_tree (show wpAny _ _ (callAny (.type "set") _) _ _ _ from ?_))
  refine wpAny_pure ⟨Code.quiet_builtin _ (by decide +kernel), codeAny_builtin F.entry_type_call ?_⟩
  rw [Around.under_plain (weight_type_call_type "set" [.ref l] []) rfl]
  have m3 := F.called_set.notType; have m4 := F.called_set.canCreate; have m5 := F.typeCall_set_1 (.ref l)
  repeat (any_goals (first | assumption | wp_step))
  have new := code_set_led1 (P := P) (w := w) (A := A.in1) (s := s) (.ref l) (E := E) (Q₁ := fun obj s₁ => obj = .ref s.heap.objs.size ∧ s₁ = { s with heap := s.heap.push (bare w) }) ⟨rfl, rfl⟩
  refine codeAny_mono new ?_
  intro r s₁ hr
  match r, hr with
  | .error e, hr => exact hr
  | .ok (.ret obj), ⟨e1, e2⟩ =>
    subst e1 e2
    have hS : (s.heap.push (bare w)).get? s.heap.objs.size = some (bare w) := Heap.get?_push_size _ rfl
    have hT : Shared.TypeIs { s with heap := s.heap.push (bare w) } (.ref s.heap.objs.size) "set" := ⟨_, hS, rfl⟩
    have m6 := F.called_set.init.lookup; have m7 := F.called_set.init.bind (.ref s.heap.objs.size)
    repeat (any_goals (first | assumption | wp_step))
    refine codeAny_mono (codeAny_call_builtin (R := wants (fun r s₂ => r = .none ∧ ∃ h' tk, s₂ = { s with heap := h', toks := tk } ∧ Tx w h' s.heap.objs.size (fun y => y ∈ xs) xs.length ∧
      (∀ b o, s.heap.get? b = some o → h'.get? b = some o)) E) F.called_set.init.plain F.entry_set_init (check_set_init_1 hT ?_)) ?_
    · obtain ⟨⟨ocls, odict, odata, oslots⟩, hol, hcl, nl, hdl⟩ := hl
      simp only at hcl hdl
      subst hcl; subst hdl
      have there : (s.heap.push (bare w)).get? l = some { cls := .type "list", dict := odict, data := .seq items nl, slots := oslots } := Heap.get?_push_of_some _ hol
      have n1 := F.sub_list_set; have n2 := F.sub_list_frozenset
      have n3 : (Value.type "list" == Value.type "dict") = false := by decide
      have lst : (s.heap.push (bare w)).IsList l items := ⟨_, there, rfl, nl, rfl⟩
      unfold Builtin.«set.__init__» noKeywords Builtin.Frozenset.updateFrom
      generalize hPI : pyIter = PI
      wp_walk
      subst hPI
      refine wpAny_pyIter_list lst (wpAny_bind (wpAny_runValue ?_))
      have below : l < s.heap.objs.size := Heap.lt_size hol
      have quiet : A.in1.in1.in1.handled = none := by simp [hh]
      have apart : l ≠ (s.heap.push (bare w)).objs.size := by rw [Heap.size_push]; exact Nat.ne_of_lt (Nat.lt_succ_of_lt below)
      have off : s.heap.objs.size ∉ [(s.heap.push (bare w)).objs.size, l] := by
        rw [Heap.size_push]
        simp only [List.mem_cons, List.not_mem_nil, or_false, not_or]
        exact ⟨Nat.ne_of_lt (Nat.lt_succ_self _), Nat.ne_of_gt below⟩
      have vals : ∀ (i : Nat) (v : Value), items[i]? = some v → ∃ t, v = .str (xs.getD i Str.empty) t := by
        intro i v hv
        exact tx_at hi i v (by rw [Array.getElem?_toList]; exact hv)
      have here : ((s.heap.push (bare w)).push { cls := .type "list_iterator", data := .fields #[.ref l, .int 0 0] }).get? s.heap.objs.size = some (bare w) := Heap.get?_push_of_some _ hS
      refine fill_tx (P := P) (w := w) ((Walks.list quiet _ l apart items).toS) s.heap.objs.size off xs hsz (by rw [← hsz]; exact few) vals (items.size - 0) 0 _ (by omega) (Nat.zero_le _) ⟨⟨_, Heap.get?_push_size _ rfl, rfl, rfl⟩, (lst.push _)⟩ (bare_tx w here) ?_
      rintro ⟨h', g', d', tk', os'⟩ hm hS'
      obtain rfl : g' = s.gens := hm.gens
      obtain rfl : d' = s.drawn := hm.drawn
      obtain rfl : os' = s.os := hm.os
      refine (show wpAny _ _ _ _ _ _ from wpAny_pure (show wpAny _ _ (ret Value.none) _ _ _ from wpAny_pure ⟨rfl, h', tk', rfl, by rw [hsz]; exact hS', ?_⟩))
      intro b o e
      have hb := Heap.lt_size e
      have k1 : b ≠ s.heap.objs.size := Nat.ne_of_lt hb
      have k2 : b ≠ (s.heap.push (bare w)).objs.size := by rw [Heap.size_push]; exact Nat.ne_of_lt (Nat.lt_succ_of_lt hb)
      exact hm.heap b o (by simp only [List.mem_cons, List.not_mem_nil, or_false, not_or]; exact ⟨k1, k2⟩) (Heap.get?_push_of_some _ (Heap.get?_push_of_some _ e))
    · intro r₂ s₂ hr₂
      match r₂, hr₂ with
      | .error e, hr₂ => exact hr₂
      | .ok (.ret r), ⟨e1, h', tk, e2, hS', hk'⟩ =>
        subst e1 e2
        repeat (any_goals (first | assumption | wp_step))
        exact h _ _ hS' hk'
theorem strs_of : ∀ (l : List Value), (∀ v ∈ l, ∃ k tk, v = Value.str k tk) → PyProof.Rows.StrsAre l (l.map PyProof.Rows.strOf)
  | [], _ => .nil
  | v :: l, h => by
    obtain ⟨k, tk, rfl⟩ := h v List.mem_cons_self
    exact .cons k tk (strs_of l fun u hu => h u (List.mem_cons_of_mem _ hu))
/-- sorted of it -/
theorem sorted_tx {a : Addr} {S : Str → Prop} {n : Nat} {Q : Value → Shared → Prop} (R : Tx w s.heap a S n) (few : n < scanBound) (hh : A.handled = none)
    (hQ : ∀ s' p (out : Array Value) (c : Nat) (ys : List Str), (∀ b o, s.heap.get? b = some o → s'.heap.get? b = some o) → s'.gens = s.gens → s'.os = s.os → s.heap.objs.size ≤ p →
      s'.heap.get? p = some (seqObj "list" out c) → PyProof.Rows.StrsAre out.toList ys → ys.Nodup → (∀ k, k ∈ ys ↔ S k) → PyProof.Rows.sortedS ys = true → Q (.ref p) s') :
    wpAny (model P w) A (call (.builtin "sorted") [.ref a]) Q E s := by
  obtain ⟨o, es, ep, t, ⟨ho, hex, hd⟩, g, nd, hm, hf, hr, hl, hn⟩ := R
  have hb : es.size < scanBound := Nat.lt_of_le_of_lt hn few
  refine Calls.call_function_entry kind_sorted plain_sorted entry_sorted (args_sorted1 _) ?_
  unfold Builtin.«sorted»
  refine wpAny_bind (m := checkCount "sorted" 1 1 _) (wpAny_pure (wpAny_bind ?_))
  refine collect_set (A := A.in1) hh ⟨o, ho, hex.1, hd⟩ hf hb hr hl ?_
  intro s1 vs k1 hz g1 o1 pm
  have long : vs.length ≤ sizeLine := by
    rw [pm.length_eq, List.length_map, Array.length_toList]
    exact fits_of_scanBound hb
  have tx : PyProof.Rows.StrsAre vs (vs.map PyProof.Rows.strOf) := by
    refine strs_of vs fun v hv => ?_
    obtain ⟨e, he, q⟩ := List.mem_map.mp (pm.mem_iff.mp hv)
    obtain ⟨k, tk, q1, _⟩ := g e he
    exact ⟨k, tk, by rw [← q]; exact q1⟩
  have pk : (vs.map PyProof.Rows.strOf).Perm (es.toList.map txt) := by
    have q := pm.map PyProof.Rows.strOf
    rw [List.map_map] at q
    refine q.trans (List.Perm.of_eq (List.map_congr_left fun e he => ?_))
    obtain ⟨k, tk, q1, _⟩ := g e he
    show PyProof.Rows.strOf e.2 = txt e
    unfold txt
    rw [q1]
    rfl
  refine wpAny_bind (wpAny_newList ?_ long)
  have laid : (s1.heap.push (seqObj "list" vs.toArray 0)).get? s1.heap.objs.size = some (seqObj "list" vs.toArray 0) := Heap.get?_push_size _ rfl
  refine wpAny_bind (wpAny_holding (wpAny_call_entry slot_list_sort ⟨_, laid, rfl⟩ entry_list_sort (PyProof.Rows.list_sort_treeKAny PyProof.Rows.strKind_oneLt laid tx.keysOf (fun v₁ v₂ rest e => PyProof.Rows.keyKind_strs (by rw [← e]; exact tx)) long ?_) (args_list_sort _)))
  intro st' hp hs
  refine ⟨_, rfl, ?_⟩
  obtain ⟨ys, y1, y2, y3⟩ := PyProof.Rows.sorted_out_str tx hp hs
  obtain ⟨c, hc⟩ := sortedHeap_at (vs := vs) (out := (arrOf st').map (·.2)) laid
  have pn := y2.trans pk
  refine wpAny_pure ⟨_, rfl, hQ _ s1.heap.objs.size _ c ys ?_ g1 o1 hz hc y1 (pn.nodup_iff.mpr nd) (fun k => by rw [pn.mem_iff, ← hm k]) y3⟩
  intro b u e
  have q := k1 b u e
  have lt := Heap.lt_size q
  refine (sortedHeap_old (Nat.ne_of_lt lt) (by rw [size_push']; exact Nat.lt_succ_of_lt lt)).trans ?_
  exact Heap.get?_push_of_some _ q
end
end SimS
set_option Elab.async false
set_option linter.all false
set_option maxRecDepth 100000
set_option maxHeartbeats 4000000
namespace Sim
open PySem PySem.Spec PyProof.Rows L2
variable [Tb] [Lm]
theorem hu65 {k : Nat} {A : Around} (r : Room k A) : A.units + 65 < cLine := by have := r.un; omega
theorem hu64 {k : Nat} {A : Around} (r : Room k A) : A.units + 64 < cLine := by have := r.un; omega
/-- what is known of a def of the text -/
structure Df (P : Program) (w : World) (K : PySem.W.Frag) (mg : Str → Option Value) (base : Heap) (T : String → Value) (x : Str) (k : Nat) (ps : List Str) (F : MF) : Prop where
  ex : ∃ f fd, FnG P w K mg base CX0 k f fd ps (spM T K ps.length F) ∧ mg x = some (.ref f) ∧ PySem.W.keepIn K (.ref f) = true ∧ Binds K fd ps []
section
variable {X : Cx} {T : String → Value} {E : XK} {k j : Nat} {ps ks : List Str} {is : List Nat} {F : MF} {x : Str} {p pos : Pos} {e : Expr} {es : List Expr} {ms : ML} {kws : List Keyword}
theorem y_call {n : Nat} (d : Df X.prog X.w X.K X.mg X.base T x k ps F) (gd : Gd X.A) (hr : Room j X.A) (hj : k ≤ j) (hg : Gl X x) (ha : AX X T E (e :: es) ms) (hdb : (x == ("__debug__" : Str)) = false := by decide)
    (he : starEach (e :: es) X.env = (false, eval e X.env) :: starEach es X.env := by rfl) (hpl : (backTo pos (starEach es X.env)).any (·.1) = false := by rfl) (hn : ps.length = n := by rfl) : EX X T E (.Call (.Name x p) (e :: es) [] pos) (mApp (fnN n F) ms) := by
  subst hn
  obtain ⟨f, fd, h1, h2, h3, h4⟩ := d.ex
  exact x_call ⟨h1, h2, h3⟩ gd (hr.mono hj) hg h4 ha hdb he hpl
theorem y_call0 (d : Df X.prog X.w X.K X.mg X.base T x k [] F) (gd : Gd X.A) (hr : Room j X.A) (hj : k ≤ j) (hg : Gl X x) (hdb : (x == ("__debug__" : Str)) = false := by decide) : EX X T E (.Call (.Name x p) [] [] pos) (mApp (fnN 0 F) mNil) := by
  obtain ⟨f, fd, h1, h2, h3, h4⟩ := d.ex
  exact x_call0 ⟨h1, h2, h3⟩ gd (hr.mono hj) hg h4 hdb
end
omit [Lm] in
/-- a def's mirror is the def: the form that is used -/
theorem y_def {T : String → Value} {P : Program} {w : World} {K : PySem.W.Frag} {mg : Str → Option Value} {base : Heap} {k : Nat} {f : Addr} {x qual : Str} {st : Stmt} {fd : FuncData} {N ps : List Str} {b : MS} (F : Fun K x qual st f fd) (S : FnScope N ps (defScope st))
    (hbody : ∀ (cdv : Value) (A : Around) (outer : List PySem.Env) (s : Shared) (H : Hp) (E : XK), Gd (A.deeper (envOfC qual (defScope st) s.heap.objs.size f cdv)) → Room k (A.deeper (envOfC qual (defScope st) s.heap.objs.size f cdv)) →
      letI : Lm := lm0; SXs (cxOf CX0 P w K mg base N qual (defScope st) f cdv A outer s H E).nox T E0 (defBody st) b) :
    FnG P w K mg base CX0 (k + 1) f fd ps (spM T K ps.length (defM N.length b)) := by
  letI : Lm := lm0
  refine fnG_of F S (fun vs H Q E h => h.1) fun cdv A outer s H vs Q E gd hr h => ?_
  obtain ⟨hl, g, st', xs, so, l, h⟩ := h
  refine ⟨_, (hbody cdv A outer s H E gd hr).nox, g, st', _, so, env_start (N := N) l, ?_⟩
  unfold defM at h
  show okS T K E0 g H (b (xs.map some ++ List.replicate (N.length - xs.length) none) st') _
  cases q : b (xs.map some ++ List.replicate (N.length - xs.length) none) st' with
  | rt y s => rw [q] at h; exact fun g' H' v e s1 r => gc_ok so e s1 r h
  | nx e s => rw [q] at h; exact fun g' H' σ' e s1 _ => gc_ok so e s1 .non h
  | bk e s => rw [q] at h; exact h.elim
  | ct e s => rw [q] at h; exact h.elim
  | exc n fs s => rw [q] at h; exact h.elim
  | bad => rw [q] at h; exact h.elim
/-! ### sorted(set(texts)) -/
def insU (x : Str) : List Str → List Str
  | [] => [x]
  | y :: ys => if x = y then y :: ys else if x.cps.toList < y.cps.toList then x :: y :: ys else y :: insU x ys
def sortU (l : List Str) : List Str := l.foldr insU []
def sSortSet : Se1 := fun x st => match (asL st x).bind asStrs with
  | some ss => if decide (ss.length < 40) then .ok (.lst ((sortU ss).map .str)) st else .bad
  | none => .bad
/-! the order of texts -/
def ltS (a b : Str) : Prop := a.cps.toList < b.cps.toList
theorem str_ext {a b : Str} (h : a.cps.toList = b.cps.toList) : a = b := by
  obtain ⟨x⟩ := a
  obtain ⟨y⟩ := b
  congr 1
  exact Array.toList_inj.mp h
theorem insU_mem (x k : Str) : ∀ l : List Str, k ∈ insU x l ↔ k = x ∨ k ∈ l
  | [] => by simp [insU]
  | y :: ys => by
    unfold insU
    split
    · rename_i e; subst e; simp
    · split
      · simp
      · rw [List.mem_cons, insU_mem x k ys, List.mem_cons]
        exact ⟨fun h => h.elim (fun z => .inr (.inl z)) fun h => h.elim .inl fun z => .inr (.inr z), fun h => h.elim (fun z => .inr (.inl z)) fun h => h.elim .inl fun z => .inr (.inr z)⟩
theorem sortU_mem (k : Str) : ∀ l : List Str, k ∈ sortU l ↔ k ∈ l
  | [] => by simp [sortU]
  | x :: l => by
    show k ∈ insU x (sortU l) ↔ _
    rw [insU_mem, sortU_mem k l, List.mem_cons]
theorem insU_asc (x : Str) : ∀ l : List Str, l.Pairwise ltS → (insU x l).Pairwise ltS
  | [], _ => by simp [insU]
  | y :: ys, h => by
    obtain ⟨h1, h2⟩ := List.pairwise_cons.mp h
    unfold insU
    split
    · exact h
    · rename_i ne
      split
      · rename_i lt
        refine List.pairwise_cons.mpr ⟨fun z hz => ?_, h⟩
        rcases List.mem_cons.mp hz with e | hz
        · rw [e]; exact lt
        · exact List.lt_trans lt (h1 z hz)
      · rename_i nl
        refine List.pairwise_cons.mpr ⟨fun z hz => ?_, insU_asc x ys h2⟩
        rcases (insU_mem x z ys).mp hz with e | hz
        · rw [e]
          have : ¬ x.cps.toList < y.cps.toList := nl
          have le : y.cps.toList ≤ x.cps.toList := List.not_lt.mp this
          rcases List.le_iff_lt_or_eq.mp le with q | q
          · exact q
          · exact absurd (str_ext q.symm) ne
        · exact h1 z hz
theorem sortU_asc : ∀ l : List Str, (sortU l).Pairwise ltS
  | [] => List.Pairwise.nil
  | x :: l => insU_asc x (sortU l) (sortU_asc l)
theorem asc_same : ∀ {a b : List Str}, a.Pairwise ltS → b.Pairwise ltS → (∀ k, k ∈ a ↔ k ∈ b) → a = b
  | [], [], _, _, _ => rfl
  | [], y :: ys, _, _, h => by have := (h y).mpr List.mem_cons_self; simp at this
  | x :: xs, [], _, _, h => by have := (h x).mp List.mem_cons_self; simp at this
  | x :: xs, y :: ys, ha, hb, h => by
    obtain ⟨a1, a2⟩ := List.pairwise_cons.mp ha
    obtain ⟨b1, b2⟩ := List.pairwise_cons.mp hb
    have irr : ∀ z : Str, ¬ ltS z z := fun z => List.lt_irrefl _
    have e : x = y := by
      rcases List.mem_cons.mp ((h x).mp List.mem_cons_self) with e | h1
      · exact e
      · rcases List.mem_cons.mp ((h y).mpr List.mem_cons_self) with e | h2
        · exact e.symm
        · exact absurd (List.lt_trans (a1 y h2) (b1 x h1)) (irr x)
    subst e
    congr 1
    refine asc_same a2 b2 fun k => ⟨fun hk => ?_, fun hk => ?_⟩
    · rcases List.mem_cons.mp ((h k).mp (List.mem_cons_of_mem _ hk)) with e | z
      · exact absurd (e ▸ a1 k hk) (irr _)
      · exact z
    · rcases List.mem_cons.mp ((h k).mpr (List.mem_cons_of_mem _ hk)) with e | z
      · exact absurd (e ▸ b1 k hk) (irr _)
      · exact z
theorem rising_pw : ∀ {p : Str} {l : List Str}, PyProof.Rows.risingS p l = true → (p :: l).Nodup → (p :: l).Pairwise ltS
  | p, [], _, _ => by simp
  | p, x :: r, h, nd => by
    have h' : (!ltCps x.cps.toList p.cps.toList && PyProof.Rows.risingS x r) = true := h
    rw [Bool.and_eq_true] at h'
    obtain ⟨d1, d2⟩ := List.nodup_cons.mp nd
    have ih := rising_pw h'.2 d2
    obtain ⟨i1, i2⟩ := List.pairwise_cons.mp ih
    have px : ltS p x := by
      have q := h'.1
      rw [PyProof.Rows.ltCps_eq] at q
      have nl : ¬ x.cps.toList < p.cps.toList := by simpa using q
      rcases List.le_iff_lt_or_eq.mp (List.not_lt.mp nl) with z | z
      · exact z
      · exact absurd (List.mem_cons.mpr (.inl (str_ext z))) d1
    refine List.pairwise_cons.mpr ⟨fun z hz => ?_, ih⟩
    rcases List.mem_cons.mp hz with e | hz
    · rw [e]; exact px
    · exact List.lt_trans px (i1 z hz)
theorem sorted_is {ss ys : List Str} (nd : ys.Nodup) (m : ∀ k, k ∈ ys ↔ k ∈ ss) (h : PyProof.Rows.sortedS ys = true) : ys = sortU ss := by
  refine asc_same ?_ (sortU_asc ss) fun k => (m k).trans (sortU_mem k ss).symm
  cases ys with
  | nil => exact List.Pairwise.nil
  | cons p l => exact rising_pw h nd
theorem sortU_len : ∀ l : List Str, (sortU l).length ≤ l.length
  | [] => Nat.le_refl _
  | x :: l => by
    have ins : ∀ m : List Str, (insU x m).length ≤ m.length + 1 := by
      intro m
      induction m with
      | nil => simp [insU]
      | cons y ys ih =>
        unfold insU
        split
        · simp
        · split
          · simp
          · simpa using ih
    have := ins (sortU l)
    have := sortU_len l
    show (insU x (sortU l)).length ≤ l.length + 1
    omega
def TxO (w : World) (a : Addr) (ss : List Str) : HO := .ext fun h => SimS.Tx w h a (fun y => y ∈ ss) ss.length
def rSetTx (K : PySem.W.Frag) (w : World) : List V → Hp → VK → Prop := fun xs H Q => ∃ (l : Addr) (ss : List Str), xs = [.ref l] ∧ SqL K H l (ss.map V.str) ∧ ss.length < 40 ∧ ∀ p, H p = none → Q (.ref p) (upd H p (TxO w p ss))
def rSortTx (w : World) : List V → Hp → VK → Prop := fun xs H Q => ∃ (a : Addr) (ss : List Str), xs = [.ref a] ∧ H a = some (TxO w a ss) ∧ ss.length < 40 ∧ ∀ p, H p = none → Q (.ref p) (upd H p (.lst ((sortU ss).map V.str)))
theorem cr_setTx {X : Cx} (hc : X.calm = true) : CallR X (.type "set") (rSetTx X.K X.w) := by
  intro pins s σ H xs us Q I r h
  obtain ⟨l, ss, rfl, hs, few, q⟩ := h
  obtain ⟨its, rv, hl, _⟩ := I.list hs
  rw [Vals.ref1 r]
  have small : ss.length + 1 < scanBound := by have : (41 : Nat) < scanBound := by decide
                                               omega
  refine SimS.call_set_tx (I.ok.hd hc) hl.isList rv.strs small fun h' tk R k => ?_
  have hn : H s.heap.objs.size = none := I.hok.fresh (Nat.le_refl _)
  refine ⟨.ref s.heap.objs.size, upd H s.heap.objs.size (TxO X.w s.heap.objs.size ss), I.laid k (Nat.le_refl _) ?_, rfl, q _ hn⟩
  obtain ⟨o, es, ep, t, ⟨ho, _⟩, _⟩ := id R
  exact ⟨R, ⟨o, ho⟩, fun h1 h2 z z2 => z.stay z2⟩
theorem cr_sortTx {X : Cx} (hc : X.calm = true) : CallR X (.builtin "sorted") (rSortTx X.w) := by
  intro pins s σ H xs us Q I r h
  obtain ⟨a, ss, rfl, ha, few, q⟩ := h
  have R : SimS.Tx X.w s.heap a (fun y => y ∈ ss) ss.length := (I.hok a _ ha).1
  rw [Vals.ref1 r]
  have small : ss.length < scanBound := by have : (41 : Nat) < scanBound := by decide
                                           omega
  refine SimS.sorted_tx R small (I.ok.hd hc) fun s' p out c ys k g o hp hg hy nd m so => ?_
  obtain rfl := sorted_is nd m so
  have hlen : ((sortU ss).map V.str).length ≤ sizeLine := by
    rw [List.length_map, sizeLine_eq]
    have := sortU_len ss
    omega
  have hn : H p = none := I.hok.fresh hp
  have J : Inv X pins σ (upd H p (.lst ((sortU ss).map V.str))) { s with heap := s'.heap, gens := s'.gens, drawn := s'.drawn, toks := s'.toks } :=
    I.call (ch := []) (Un.laid k hp hn) (I.hok.laid k hp ⟨hlen, out.toList, c, vals_of_strs hy, hg⟩) (by rw [g]; exact I.bare) (fun _ z => nomatch z)
  have e : s' = { s with heap := s'.heap, gens := s'.gens, drawn := s'.drawn, toks := s'.toks } := by
    cases s'
    cases s
    cases o
    rfl
  rw [e]
  exact ⟨.ref p, _, J, rfl, q p hn⟩
theorem x_sortset {X : Cx} {T : String → Value} {E : XK} {e : Expr} {m : M} {p p2 q pos : Pos} (hc : X.calm = true) (hg : Gl X "sorted") (hm : X.mg "sorted" = none) (hg2 : Gl X "set") (hm2 : X.mg "set" = none) (ha : EX X T E e m)
    (n1 : starEach (e :: []) X.env = (false, eval e X.env) :: starEach [] X.env := by rfl) (n2 : starEach ((.Call (.Name "set" p2) [e] [] q) :: []) X.env = (false, eval (.Call (.Name "set" p2) [e] [] q) X.env) :: starEach [] X.env := by rfl) :
    EX X T E (.Call (.Name "sorted" p) [.Call (.Name "set" p2) [e] [] q] [] pos) (mUn sSortSet m) := by
  have inner : PE X (.Call (.Name "set" p2) [e] [] q) (tCB (rSetTx X.K X.w) (tCons (TV T X.K E m) tNil)) := pe_callTy (cr_setTx hc) hg2 hm2 (by decide +kernel) (pa_cons ha pa_nil n1) (he := n1)
  refine pe_imp (pe_callB (cr_sortTx hc) hg hm (by decide +kernel) (pa_cons inner pa_nil n2) (he := n2)) fun σ H Q ⟨g, st, env, s, en, h⟩ => ?_
  refine tv_of s en h fun g1 H1 st1 x v e1 s1 en1 r1 h1 => ?_
  simp only [sSortSet] at h1
  split at h1
  · rename_i ss es
    split at h1
    · rename_i few
      obtain ⟨ys, e2, e3⟩ := Option.bind_eq_some_iff.mp es
      obtain ⟨a, vs, rfl, hl, l⟩ := asL_ok s1 r1 e2
      cases asStrs_ok e3
      cases l.strs
      refine ⟨a, ss, rfl, hl, of_decide_eq_true few, fun p hp => ?_⟩
      refine ⟨p, ss, rfl, upd_same, of_decide_eq_true few, ?_⟩
      exact giveF (st_new s1 hp) (RVL.ofStrs _) (okR.ext h1 (ext_new s1 hp))
    · exact h1.elim
  · exact h1.elim
/-! ### str(x) of data -/
mutual
def toDD : PV → Option PyData
  | .non => some .none
  | .bl b => some (.bool b)
  | .int i => some (.int i)
  | .str x => some (.str x)
  | .tup xs => (toDDs xs).map .tuple
  | .lst xs => (toDDs xs).map .list
  | .rol xs => (toDDs xs).map .list
  | .dct kvs => (toDDk kvs).map .dict
  | .ref _ => none
  | .raw _ => none
  | .wtp _ => none
  | .err _ => none
  | .dd _ => none
def toDDs : List PV → Option (List PyData)
  | [] => some []
  | x :: xs => match toDD x, toDDs xs with
    | some d, some ds => some (d :: ds)
    | _, _ => none
def toDDk : List (Key × PV) → Option (List (PyData × PyData))
  | [] => some []
  | (k, x) :: xs => match toDD x, toDDk xs with
    | some d, some ds => some ((match k with | .inl i => .int i | .inr s => .str s, d) :: ds)
    | _, _ => none
end
/-- .. a list of the store at the top -/
def unref (st : Sto) (x : PV) : PV := match x with
  | .ref k => match st[k]? with
    | some (.lst xs) => .lst xs
    | _ => .ref k
  | x => x
theorem unref_ok {K : PySem.W.Frag} {g : G} {H : Hp} {st : Sto} {x : PV} {v : V} (so : StOk K g H st) (r : RV K g H x v) : ∃ g', RV K g' H (unref st x) v := by
  unfold unref
  split
  · rename_i k
    split
    · rename_i xs q
      obtain ⟨rfl, vs, hH, l⟩ := ref_of so q r
      have x : ExtW g H { g with F := fun _ => True } H := ⟨Nat.le_refl _, fun _ _ => rfl, fun _ _ => ⟨trivial, rfl⟩, fun _ _ _ h => h⟩
      exact ⟨_, .lst trivial hH (l.monoW x)⟩
    · exact ⟨g, r⟩
  · exact ⟨g, r⟩
def sStr : SeN := fun xs st => match xs with
  | [.str z] => .ok (.str z) st
  | [x] => match toDD (unref st x) with
    | some d => if d.showable && decide (d.depth ≤ 50) && decide (d.shown.length ≤ 16777216) then .ok (.str d.shown) st else .bad
    | none => .bad
  | _ => .bad
section
variable {X : Cx} {pins : List (Addr × Obj)} {σ : L2.St} {H : Hp} {s : Shared} {g : G}
theorem vals_same {P : Program} {w : World} : ∀ {es : List DictEntry} {kvs : List (Key × Value)}, Pairs (mixKind P w) es kvs → es.map (·.val) = kvs.map (·.2)
  | _, _, .nil => rfl
  | _, _, .cons h1 h2 l => by rw [List.map_cons, List.map_cons, h2, vals_same l]
theorem rvk_vals : ∀ {kvs : List (Key × PV)} {ws : List (Key × V)}, RVK X.K g H kvs ws → RVL X.K g H (kvs.map (·.2)) (ws.map (·.2)) ∧ kvs.map (·.1) = ws.map (·.1)
  | _, _, .nil => ⟨.nil, rfl⟩
  | _, _, .cons r l => ⟨.cons r (rvk_vals l).1, by rw [List.map_cons, List.map_cons, (rvk_vals l).2]⟩
theorem kv_vals : ∀ {ws : List (Key × V)} {vs : List (Key × Value)}, KV ws vs → Vals (ws.map (·.2)) (vs.map (·.2)) ∧ ws.map (·.1) = vs.map (·.1)
  | _, _, .nil => ⟨.nil, rfl⟩
  | _, _, .cons r l => ⟨.cons r.2 (kv_vals l).1, by rw [List.map_cons, List.map_cons, (kv_vals l).2, r.1]⟩
section
variable {P : Program} {w : World} {h : Heap}
/-- one node of data, with the texts of its parts; only for a dict does its place matter -/
inductive Nd (h : Heap) : Value → PyData → List Addr → Prop
  | non : Nd h .none .none []
  | bl (b : Bool) : Nd h (.bool b) (.bool b) []
  | int (i : Int) (t : Nat) : Nd h (.int i t) (.int i) []
  | str (x : Str) (t : Nat) : Nd h (.str x t) (.str x) []
  | lst {a : Addr} {o : Obj} {vs : Array Value} {n : Nat} {ds : List PyData} {bs : List Addr} (h1 : h.get? a = some o) (h2 : o.cls = .type "list") (h3 : o.data = .seq vs n) (nm : a ∉ bs) (l : ∀ P w, ReprAllK P w bs h (PyData.depthAll ds) vs.toList (PyData.shownAll ds)) : Nd h (.ref a) (.list ds) (a :: bs)
  | tup {a : Addr} {o : Obj} {vs : Array Value} {n : Nat} {ds : List PyData} {bs : List Addr} (h1 : h.get? a = some o) (h2 : o.cls = .type "tuple") (h3 : o.data = .seq vs n) (nm : a ∉ bs) (l : ∀ P w, ReprAllK P w bs h (PyData.depthAll ds) vs.toList (PyData.shownAll ds)) : Nd h (.ref a) (.tuple ds) (a :: bs)
  | dct {a : Addr} {o : Obj} {es : Array DictEntry} {n : Nat} {kvs : List (PyData × PyData)} {bs : List Addr} (h1 : h.get? a = some o) (h2 : o.cls = .type "dict") (h3 : o.data = .dict es n) (ns : (a == sysModules) = false) (nm : a ∉ bs)
      (l : ∀ P w, ReprEntriesK P w bs h (PyData.depthKv kvs) es.toList (PyData.shownKv kvs)) : Nd h (.ref a) (.dict kvs) (a :: bs)
theorem Nd.rp {u : Value} {d : PyData} {bs : List Addr} (q : Nd h u d bs) (sh : d.showable = true) (hz : d.shown.length ≤ sizeLine) : ReprK P w bs h d.depth u d.shown := by
  cases q with
  | non => simp only [PyData.shown]; exact .of_is ReprIs.none _ _ _
  | bl b => simp only [PyData.shown]; exact .of_is (ReprIs.bool b) _ _ _
  | int i t => simp only [PyData.shown]; exact .of_is (ReprIs.int t (by simpa [PyData.showable] using sh)) _ _ _
  | str x t => simp only [PyData.shown]; exact .of_is (ReprIs.str x t (by simpa only [PyData.shown] using hz)) _ _ _
  | lst h1 h2 h3 nm l =>
    rename_i a o vs n ds bs
    simp only [PyData.depth, PyData.shown]
    obtain ⟨us⟩ := vs
    cases us with
    | nil =>
      cases ds with
      | nil =>
        simp only [PyData.shownAll, listText_nil]
        exact .listEmpty h1 h2 h3
      | cons d ds => have l := l P w; simp only [PyData.shownAll] at l; cases l
    | cons u us => exact .list h1 h2 h3 nm (by have := (l P w).length_eq; simpa using this) fun i y e => (l P w).item i y (by simpa using e)
  | tup h1 h2 h3 nm l =>
    simp only [PyData.depth, PyData.shown]
    exact .tuple h1 h2 h3 nm (l P w)
  | dct h1 h2 h3 ns nm l =>
    simp only [PyData.depth, PyData.shown]
    exact .dict h1 h2 h3 ns nm (l P w)
theorem Nd.by {a : Addr} {d : PyData} {bs : List Addr} (q : Nd h (.ref a) d bs) (hz : d.shown.length ≤ sizeLine) : ∃ T idr, ShowsBy P w h a d T idr := by
  cases q with
  | lst h1 h2 h3 nm l =>
    rename_i o vs n ds bs
    refine ⟨_, _, ⟨F.slot_list_repr.toG, F.slot_list_str, F.slot_list_format, fun s k => ⟨o, k _ _ h1, h2⟩, fun A E s Q hg hu k hQ => ?_⟩⟩
    simp only [PyData.depth] at hu
    simp only [PyData.shown] at hQ hz
    obtain ⟨us⟩ := vs
    cases us with
    | nil =>
      cases ds with
      | nil =>
        simp only [PyData.shownAll, listText_nil] at hQ
        exact call_list_repr_empty ⟨o, k _ _ h1, h2⟩ (k _ _ h1) h3 (hQ s.heap _ _ fun _ _ e => e)
      | cons d ds => have l := l P w; simp only [PyData.shownAll] at l; cases l
    | cons u us => exact call_list_reprK h1 h2 h3 nm (by have := (l P w).length_eq; simpa using this) (fun i y e => (l P w).item i y (by simpa using e)) hg (fun b _ => Clear.nil b) hu k hQ hz
  | tup h1 h2 h3 nm l =>
    rename_i o vs n ds bs
    refine ⟨_, _, ⟨F.slot_tuple_repr, F.slot_tuple_str, F.slot_tuple_format, fun s k => ⟨o, k _ _ h1, h2⟩, fun A E s Q hg hu k hQ => ?_⟩⟩
    simp only [PyData.depth] at hu
    simp only [PyData.shown] at hQ hz
    exact call_tuple_reprK h1 h2 h3 nm (l P w) hg (fun b _ => Clear.nil b) hu k hQ hz
  | dct h1 h2 h3 ns nm l =>
    rename_i o es n kvs bs
    refine ⟨_, _, ⟨F.slot_dict_repr, F.slot_dict_str, F.slot_dict_format, fun s k => ⟨o, k _ _ h1, h2⟩, fun A E s Q hg hu k hQ => ?_⟩⟩
    simp only [PyData.depth] at hu
    simp only [PyData.shown] at hQ hz
    exact call_dict_reprK h1 h2 h3 ns nm (l P w) hg (fun b _ => Clear.nil b) hu k hQ hz
theorem strNd {A : Around} {E : Value → Shared → Prop} {s : Shared} {Q : Value → Shared → Prop} {u : Value} {d : PyData} {bs : List Addr} (q : Nd s.heap u d bs) (sh : d.showable = true) (hg : Gd A) (hu : A.units + 64 < cLine) (dp : d.depth ≤ 50) (hz : d.shown.length ≤ sizeLine) (ne : ∀ z, d ≠ .str z)
    (hQ : ∀ h' u tk, (∀ b o, s.heap.get? b = some o → h'.get? b = some o) → Q (.str d.shown u) { s with heap := h', toks := tk }) : wpAny (model P w) A (call (.type "str") [u]) Q E s := by
  have go : ∀ a, Nd s.heap (.ref a) d bs → wpAny (model P w) A (call (.type "str") [.ref a]) Q E s := by
    intro a q
    refine callType_new F.called_str (by decide) (F.typeCall_str_1 _) (F.newCall_str_1 _) (fun obj => F.args_object_init_2 obj _) F.entry_str_new
      (meets_str_new (S := fun A2 R s2 => (A2 = A.in1 ∧ s2 = s) ∧ ∀ h' u tk, (∀ b o, s.heap.get? b = some o → h'.get? b = some o) → R (.ok (.ret (.str d.shown u))) { s with heap := h', toks := tk })
        fun P2 w2 A2 R s2 hh => ?_) ⟨⟨rfl, rfl⟩, fun h' u tk k => ⟨typeIs_str _ _ _, hQ h' u tk k⟩⟩
    obtain ⟨⟨rfl, rfl⟩, hR⟩ := hh
    obtain ⟨T, idr, S⟩ := q.by (P := P2) (w := w2) hz
    refine wpAny_strOf_slot rfl ?_ (S.typeIs s2 fun _ _ e => e) S.slotStr S.slotRepr (S.call _ _ s2 _ hg ?_ (fun _ _ e => e) fun h' u tk k => ⟨_, _, rfl, hR h' u tk k⟩)
    · show A.units + 1 + 1 + 1 < cLine
      omega
    · show A.units + 1 + 1 + 1 + d.depth < cLine
      omega
  cases q with
  | non => exact PySem.P.str_of_none (hQ s.heap _ _ fun _ _ e => e)
  | bl b => exact PySem.P.str_of_bool (hQ s.heap _ _ fun _ _ e => e)
  | int i t => exact PySem.P.str_of_int (by simpa [PyData.showable] using sh) (hQ s.heap _ _ fun _ _ e => e)
  | str x t => exact absurd rfl (ne x)
  | lst h1 h2 h3 nm l => exact go _ (.lst h1 h2 h3 nm l)
  | tup h1 h2 h3 nm l => exact go _ (.tup h1 h2 h3 nm l)
  | dct h1 h2 h3 ns nm l => exact go _ (.dct h1 h2 h3 ns nm l)
end
/-- a value that reads as data, with its node -/
def RdN (h : Heap) (u : Value) (d : PyData) : Prop := ∃ as bs, Reads h u d as ∧ ReadAtMost h d.depth bs ∧ Nd h u d bs
def RdL (h : Heap) (us : List Value) (ds : List PyData) : Prop := ∃ as bs, ReadsAll h us ds as ∧ ReadAtMost h (PyData.depthAll ds) bs ∧ ∀ P w, ReprAllK P w bs h (PyData.depthAll ds) us (PyData.shownAll ds)
theorem RdL.nil {h : Heap} : RdL h [] [] := ⟨[], [], .nil, (fun _ m => nomatch m), fun _ _ => by simp only [PyData.shownAll]; exact .nil⟩
theorem RdL.cons {h : Heap} {u : Value} {us : List Value} {d : PyData} {ds : List PyData} (q : RdN h u d) (l : RdL h us ds) (sh : d.showable = true) (hz : d.shown.length ≤ sizeLine) : RdL h (u :: us) (d :: ds) := by
  obtain ⟨as, bs, q1, q2, q3⟩ := q
  obtain ⟨as2, bs2, l1, l2, l3⟩ := l
  refine ⟨as ++ as2, bs ++ bs2, .cons q1 l1, (q2.mono (by simp only [PyData.depthAll]; omega)).append (l2.mono (by simp only [PyData.depthAll]; omega)), fun P w => ?_⟩
  simp only [PyData.depthAll, PyData.shownAll]
  exact .cons (((q3.rp sh hz).more fun b m => List.mem_append_left _ m).level_le (Nat.le_max_left _ _)) ((l3 P w).more_le (fun b m => List.mem_append_right _ m) (Nat.le_max_right _ _))
theorem RdN.lst {h : Heap} {a : Addr} {o : Obj} {vs : Array Value} {n : Nat} {ds : List PyData} (h1 : h.get? a = some o) (h2 : o.cls = .type "list") (h3 : o.data = .seq vs n) (l : RdL h vs.toList ds) : RdN h (.ref a) (.list ds) := by
  obtain ⟨as, bs, l1, l2, l3⟩ := l
  have r : Reads h (.ref a) (.list ds) _ := .list h1 h2 h3 l1
  exact ⟨_, _, r, .cons r (by simp only [PyData.depth]; omega) l2, .lst h1 h2 h3 (not_mem_of_deeper r (by simp only [PyData.depth]; omega) l2) l3⟩
theorem RdN.tup {h : Heap} {a : Addr} {o : Obj} {vs : Array Value} {n : Nat} {ds : List PyData} (h1 : h.get? a = some o) (h2 : o.cls = .type "tuple") (h3 : o.data = .seq vs n) (l : RdL h vs.toList ds) : RdN h (.ref a) (.tuple ds) := by
  obtain ⟨as, bs, l1, l2, l3⟩ := l
  have r : Reads h (.ref a) (.tuple ds) _ := .tuple h1 h2 h3 l1
  exact ⟨_, _, r, .cons r (by simp only [PyData.depth]; omega) l2, .tup h1 h2 h3 (not_mem_of_deeper r (by simp only [PyData.depth]; omega) l2) l3⟩
theorem RdN.dct {h : Heap} {a : Addr} {o : Obj} {es : Array DictEntry} {n : Nat} {kvs : List (PyData × PyData)} (h1 : h.get? a = some o) (h2 : o.cls = .type "dict") (h3 : o.data = .dict es n) (ns : (a == sysModules) = false)
    (k : RdL h (es.toList.map (·.key)) (kvs.map (·.1))) (l : RdL h (es.toList.map (·.val)) (kvs.map (·.2))) : RdN h (.ref a) (.dict kvs) := by
  obtain ⟨as, bs, l1, l2, l3⟩ := k
  obtain ⟨as2, bs2, m1, m2, m3⟩ := l
  have r : Reads h (.ref a) (.dict kvs) _ := .dict h1 h2 h3 l1 m1
  have hb := (l2.mono (PyData.depthAll_keys_le kvs)).append (m2.mono (PyData.depthAll_vals_le kvs))
  refine ⟨_, _, r, .cons r (by simp only [PyData.depth]; omega) hb, .dct h1 h2 h3 ns (not_mem_of_deeper r (by simp only [PyData.depth]; omega) hb) fun P w => ?_⟩
  rw [PyData.shownKv_eq]
  exact .of_two _ _ _ ((l3 P w).more_le (fun b m => List.mem_append_left _ m) (PyData.depthAll_keys_le kvs)) ((m3 P w).more_le (fun b m => List.mem_append_right _ m) (PyData.depthAll_vals_le kvs))
/-- a key of a dict, as data -/
def kD : Key → PyData
  | .inl i => .int i
  | .inr s => .str s
theorem toDDk_both : ∀ {kvs : List (Key × PV)} {ds : List (PyData × PyData)}, toDDk kvs = some ds → ds.map (·.1) = kvs.map (fun p => kD p.1) ∧ toDDs (kvs.map (·.2)) = some (ds.map (·.2))
  | [], _, e => by cases e; exact ⟨rfl, rfl⟩
  | (k, x) :: xs, _, e => by
    simp only [toDDk] at e
    split at e
    · rename_i d ds e1 e2
      cases e
      obtain ⟨q1, q2⟩ := toDDk_both e2
      refine ⟨by simp only [List.map_cons, q1]; cases k <;> rfl, ?_⟩
      simp only [List.map_cons, toDDs, e1, q2]
    · cases e
theorem key_rd {h : Heap} {P : Program} {w : World} : ∀ {es : List DictEntry} {kvs : List (Key × Value)}, Pairs (mixKind P w) es kvs → PyData.showableAll (kvs.map fun p => kD p.1) = true → (∀ t ∈ PyData.shownAll (kvs.map fun p => kD p.1), t.length ≤ sizeLine) → RdL h (es.map (·.key)) (kvs.map fun p => kD p.1)
  | _, _, .nil, _, _ => .nil
  | _, _, .cons (e := e) (kv := kv) h1 h2 l, hs, hz => by
    rw [List.map_cons] at hs hz
    simp only [PyData.showableAll, Bool.and_eq_true] at hs
    simp only [PyData.shownAll] at hz
    have q : RdN h e.key (kD kv.1) := by
      rcases keyIs_shape (k := kv.1) (v := e.key) h1 with ⟨i, t, q1, q2⟩ | ⟨x, t, q1, q2⟩
      · rw [q1, q2]; exact ⟨[], [], .int i t, (fun _ m => nomatch m), .int i t⟩
      · rw [q1, q2]; exact ⟨[], [], .str x t, (fun _ m => nomatch m), .str x t⟩
    exact RdL.cons q (key_rd l hs.2 fun t m => hz t (List.mem_cons_of_mem _ m)) hs.1 (hz _ (List.mem_cons_self ..))
mutual
theorem rdV (I : Inv X pins σ H s) : ∀ {x : PV} {v : V} {u : Value} {d : PyData}, RV X.K g H x v → RelV v u → toDD x = some d → d.showable = true → d.shown.length ≤ sizeLine → RdN s.heap u d
  | .non, _, _, _, h, r, e, _, _ => by cases h; cases r; cases e; exact ⟨[], [], .none, (fun _ m => nomatch m), .non⟩
  | .bl b, _, _, _, h, r, e, _, _ => by cases h; cases r; cases e; exact ⟨[], [], .bool b, (fun _ m => nomatch m), .bl b⟩
  | .int i, _, _, _, h, r, e, _, _ => by cases h; obtain ⟨t, rfl⟩ := r; cases e; exact ⟨[], [], .int i t, (fun _ m => nomatch m), .int i t⟩
  | .str x, _, _, _, h, r, e, _, _ => by cases h; obtain ⟨t, rfl⟩ := r; cases e; exact ⟨[], [], .str x t, (fun _ m => nomatch m), .str x t⟩
  | .tup xs, _, _, _, h, r, e, hs, hz => by
    cases h with
    | tup h l =>
      cases r
      simp only [toDD, Option.map_eq_some_iff] at e
      obtain ⟨ds, e1, rfl⟩ := e
      obtain ⟨its, rv, ⟨o, ho, hc, n, hd⟩, _⟩ := I.tuple h.t
      simp only [PyData.shown] at hz
      exact .tup ho hc hd (by simpa using rdL I l rv e1 (by simpa [PyData.showable] using hs) fun t m => Nat.le_trans (tupleText_mem_le m) hz)
  | .lst xs, _, _, _, h, r, e, hs, hz => by
    cases h with
    | lst f h l =>
      cases r
      simp only [toDD, Option.map_eq_some_iff] at e
      obtain ⟨ds, e1, rfl⟩ := e
      obtain ⟨its, rv, ⟨o, n, ho, hc, _, hd⟩, _⟩ := I.list (SqL.of h)
      simp only [PyData.shown] at hz
      exact .lst ho hc hd (by simpa using rdL I l rv e1 (by simpa [PyData.showable] using hs) fun t m => Nat.le_trans (listText_mem_le m) hz)
  | .rol xs, _, _, _, h, r, e, hs, hz => by
    cases h with
    | rol f h l =>
      cases r
      simp only [toDD, Option.map_eq_some_iff] at e
      obtain ⟨ds, e1, rfl⟩ := e
      obtain ⟨its, rv, ⟨o, n, ho, hc, _, hd⟩, _⟩ := I.list (show SqL X.K H _ _ from .inl (.inr ⟨_, h⟩))
      simp only [PyData.shown] at hz
      exact .lst ho hc hd (by simpa using rdL I l rv e1 (by simpa [PyData.showable] using hs) fun t m => Nat.le_trans (listText_mem_le m) hz)
    | rolK h h2 l =>
      cases r
      simp only [toDD, Option.map_eq_some_iff] at e
      obtain ⟨ds, e1, rfl⟩ := e
      obtain ⟨its, rv, ⟨o, n, ho, hc, _, hd⟩, _⟩ := I.list (h H)
      simp only [PyData.shown] at hz
      exact .lst ho hc hd (by simpa using rdL I l rv e1 (by simpa [PyData.showable] using hs) fun t m => Nat.le_trans (listText_mem_le m) hz)
  | .dct kvs, _, _, _, h, r, e, hs, hz => by
    cases h with
    | dct f h l =>
      cases r
      simp only [toDD, Option.map_eq_some_iff] at e
      obtain ⟨ds, e1, rfl⟩ := e
      obtain ⟨_, ns, vs, kv, o, es, ep, ho, hx, hd, _, pr, _⟩ := dk_of I.hok h
      obtain ⟨q1, q2⟩ := toDDk_both e1
      obtain ⟨l1, l2⟩ := rvk_vals l
      obtain ⟨v1, v2⟩ := kv_vals kv
      obtain ⟨s1, s2⟩ := PyData.showableKv_split ds (by simpa [PyData.showable] using hs)
      simp only [PyData.shown] at hz
      have z1 : ∀ t ∈ PyData.shownAll (ds.map (·.1)), t.length ≤ sizeLine := fun t m => by
        obtain ⟨p, hp, le⟩ := PyData.shownKv_key_le ds t m
        exact Nat.le_trans le (Nat.le_trans (dictText_mem_le hp) hz)
      have z2 : ∀ t ∈ PyData.shownAll (ds.map (·.2)), t.length ≤ sizeLine := fun t m => by
        obtain ⟨p, hp, le⟩ := PyData.shownKv_val_le ds t m
        exact Nat.le_trans le (Nat.le_trans (dictText_mem_le hp) hz)
      have ek : (vs.map fun p => kD p.1) = ds.map (·.1) := by
        rw [q1]
        have e3 : kvs.map (·.1) = vs.map (·.1) := l2.trans v2
        have := congrArg (List.map kD) e3
        rw [List.map_map, List.map_map] at this
        exact this.symm
      rw [← ek] at s1 z1
      have rk := key_rd (h := s.heap) pr s1 z1
      rw [ek] at rk
      exact .dct ho hx.1 hd ns rk (by rw [vals_same pr]; exact rdK I l v1 e1 s2 z2)
theorem rdL (I : Inv X pins σ H s) : ∀ {xs : List PV} {vs : List V} {us : List Value} {ds : List PyData}, RVL X.K g H xs vs → Vals vs us → toDDs xs = some ds → PyData.showableAll ds = true → (∀ t ∈ PyData.shownAll ds, t.length ≤ sizeLine) → RdL s.heap us ds
  | [], _, _, _, h, r, e, _, _ => by cases h; cases r; cases e; exact .nil
  | x :: xs, _, _, _, h, r, e, hs, hz => by
    cases h with
    | cons h l =>
      cases r with
      | cons r rs =>
        simp only [toDDs] at e
        split at e
        · rename_i d ds e1 e2
          cases e
          simp only [PyData.showableAll, Bool.and_eq_true] at hs
          simp only [PyData.shownAll] at hz
          have z := hz _ (List.mem_cons_self ..)
          exact .cons (rdV I h r e1 hs.1 z) (rdL I l rs e2 hs.2 fun t m => hz t (List.mem_cons_of_mem _ m)) hs.1 z
        · cases e
theorem rdK (I : Inv X pins σ H s) : ∀ {kvs : List (Key × PV)} {ws : List (Key × V)} {us : List Value} {ds : List (PyData × PyData)}, RVK X.K g H kvs ws → Vals (ws.map (·.2)) us → toDDk kvs = some ds → PyData.showableAll (ds.map (·.2)) = true → (∀ t ∈ PyData.shownAll (ds.map (·.2)), t.length ≤ sizeLine) → RdL s.heap us (ds.map (·.2))
  | [], _, _, _, h, r, e, _, _ => by cases h; cases r; cases e; exact .nil
  | (k, x) :: xs, _, _, _, h, r, e, hs, hz => by
    cases h with
    | cons h l =>
      cases r with
      | cons r rs =>
        simp only [toDDk] at e
        split at e
        · rename_i d ds e1 e2
          cases e
          simp only [List.map_cons, PyData.showableAll, Bool.and_eq_true] at hs
          simp only [List.map_cons, PyData.shownAll] at hz
          have z := hz _ (List.mem_cons_self ..)
          exact .cons (rdV I h r e1 hs.1 z) (rdK I l rs e2 hs.2 fun t m => hz t (List.mem_cons_of_mem _ m)) hs.1 z
        · cases e
end
end
def rStr (K : PySem.W.Frag) : List V → Hp → VK → Prop := fun xs H Q => (∃ z, xs = [.str z] ∧ Q (.str z) H) ∨ ∃ g x v d, xs = [v] ∧ RV K g H x v ∧ (∀ z, x ≠ .str z) ∧ toDD x = some d ∧ d.showable = true ∧ d.depth ≤ 50 ∧ d.shown.length ≤ sizeLine ∧ Q (.str d.shown) H
theorem x_strOf {X : Cx} {T : String → Value} {E : XK} {k : Nat} {e : Expr} {m : M} {p pos : Pos} (gd : Gd X.A) (hr : Room k X.A) (hg : Gl X "str") (hm : X.mg "str" = none) (ha : EX X T E e m) (na : starEach (e :: []) X.env = (false, eval e X.env) :: starEach [] X.env := by rfl) :
    EX X T E (.Call (.Name "str" p) [e] [] pos) (mApp sStr (mCons m mNil)) := by
  have c : CallR X (.type "str") (rStr X.K) := by
    intro pins s σ H xs us Q I r h
    rcases h with ⟨z, rfl, q⟩ | ⟨g, x, v, d, rfl, rx, nx, ed, sh, dp, hz, q⟩
    · obtain ⟨u, rfl, ru⟩ := vals1 r
      obtain ⟨t, rfl⟩ := ru
      exact PySem.P.str_of_str ⟨.str z, H, I, ⟨_, rfl⟩, q⟩
    obtain ⟨u, rfl, ru⟩ := vals1 r
    have nd : ∀ z, d ≠ .str z := fun z e => by
      subst e
      cases x with
      | str y => exact nx y rfl
      | tup _ => simp [toDD] at ed
      | lst _ => simp [toDD] at ed
      | rol _ => simp [toDD] at ed
      | dct _ => simp [toDD] at ed
      | wtp _ => simp [toDD] at ed
      | _ => simp [toDD] at ed
    obtain ⟨as, bs, _, _, q3⟩ := rdV I rx ru ed sh hz
    exact strNd q3 sh gd (hu64 hr) dp hz nd fun h' u tk k => ⟨.str d.shown, H, I.kept k, ⟨_, rfl⟩, q⟩
  refine x_callTy c ?_ hg hm (by decide +kernel) (x_cons ha x_nil na) (he := na)
  intro g H st xs vs Q s l h
  unfold sStr at h
  split at h
  · obtain ⟨v, rfl, r⟩ := one_of l
    cases r
    exact .inl ⟨_, rfl, okR.fin h s (.str _)⟩
  · rename_i x hx
    split at h
    · rename_i d ed
      split at h
      · rename_i hf
        simp only [Bool.and_eq_true, decide_eq_true_eq] at hf
        obtain ⟨v, rfl, r⟩ := one_of l
        obtain ⟨g', r'⟩ := unref_ok s r
        have hx' : ∀ z, unref st x ≠ .str z := fun z e => by
          unfold unref at e
          split at e
          · split at e <;> cases e
          · exact hx z (by rw [e])
        exact .inr ⟨g', _, v, d, rfl, r', hx', ed, hf.1.1, hf.1.2, by rw [sizeLine_eq]; exact hf.2, okR.fin h s (.str _)⟩
      · exact h.elim
    · exact h.elim
  · exact h.elim
/-- + of lists, for a name whose list is changed later -/
def sAddM : Se2 := fun x y st => match asM st x, asM st y with
  | some xs, some ys => if fitL (xs ++ ys) then .ok (.ref st.length) (st ++ [.lst (xs ++ ys)]) else .bad
  | _, _ => .bad
theorem s_addM {X : Cx} {T : String → Value} {E : XK} : S2 T X.K E (rAdd4 X.K) sAddM := by
  intro g H st x y v u Q s r1 r2 h
  unfold sAddM at h
  split at h
  · rename_i xs ys e1 e2
    obtain ⟨a, vs, rfl, h1, l1⟩ := asM_ok s r1 e1
    obtain ⟨b, ws, rfl, h2, l2⟩ := asM_ok s r2 e2
    split at h
    · rename_i hf
      have := fitL_ok hf
      rw [List.length_append, l1.length, l2.length] at this
      exact .inr (.inl ⟨a, b, vs, ws, rfl, rfl, h1, h2, this, giveM s (l1.append l2) h⟩)
    · exact h.elim
  · exact h.elim
end Sim
namespace Sim
open PySem PySem.Spec PyProof.Rows L2
variable [Tb] [Lm]
/-- a constant of the text -/
structure Co (P : Program) (w : World) (K : PySem.W.Frag) (mg : Str → Option Value) (base : Heap) (x : Str) (v : PV) : Prop where
  is : ∃ u y, mg x = some u ∧ RelV y u ∧ ∀ g H, RV K g H v y
theorem Co.ex {X : Cx} {T : String → Value} {E : XK} {x : Str} {v : PV} {pos : Pos} (c : Co X.prog X.w X.K X.mg X.base x v) (hg : Gl X x := by rfl) (hd : (x == ("__debug__" : Str)) = false := by decide) : EX X T E (.Name x pos) (mC v) := by
  obtain ⟨u, y, h1, h2, h3⟩ := c.is
  exact x_C (pe_glob hg h1 h2 hd) h3
end Sim
namespace Sim
open PySem PySem.Spec PyProof.Rows L2
end Sim
namespace L2
open PySem PySem.Spec PyProof.Rows
end L2
set_option Elab.async false
set_option linter.all false
set_option maxRecDepth 100000
set_option maxHeartbeats 4000000
namespace Sim
open PySem PySem.Spec PyProof.Rows L2
/-! ### working with mirrors -/
mutual
theorem eqb_rfl : ∀ x : PV, PV.eqb x x = true
  | .non => rfl
  | .bl a => by simp [PV.eqb]
  | .int a => by simp [PV.eqb]
  | .str a => by simp [PV.eqb]
  | .tup xs => by simp only [PV.eqb]; exact eqbs_rfl xs
  | .lst xs => by simp only [PV.eqb]; exact eqbs_rfl xs
  | .rol xs => by simp only [PV.eqb]; exact eqbs_rfl xs
  | .wtp xs => by simp only [PV.eqb]; exact eqbs_rfl xs
  | .dct xs => by simp only [PV.eqb]; exact eqbk_rfl xs
  | .ref a => by simp [PV.eqb]
  | .raw a => by simp [PV.eqb]
  | .err a => by simp [PV.eqb]
  | .dd xs => by simp only [PV.eqb]; exact eqbd_rfl xs
theorem eqbs_rfl : ∀ xs : List PV, PV.eqbs xs xs = true
  | [] => rfl
  | x :: xs => by simp only [PV.eqbs, Bool.and_eq_true]; exact ⟨eqb_rfl x, eqbs_rfl xs⟩
theorem eqbk_rfl : ∀ xs : List (Key × PV), PV.eqbk xs xs = true
  | [] => rfl
  | (k, x) :: xs => by simp only [PV.eqbk, Bool.and_eq_true, decide_true, true_and]; exact ⟨eqb_rfl x, eqbk_rfl xs⟩
theorem eqbd_rfl : ∀ xs : List (NestedKey × PV), PV.eqbd xs xs = true
  | [] => rfl
  | (k, x) :: xs => by simp only [PV.eqbd, Bool.and_eq_true, decide_true, true_and]; exact ⟨eqb_rfl x, eqbd_rfl xs⟩
end
theorem moeq_rfl (x : MO) : MO.eqb x x = true := by
  cases x with
  | lst a => exact eqbs_rfl a
  | dct a => exact eqbk_rfl a
  | dd a => exact eqbd_rfl a
  | dead => rfl
theorem okOld_of (n : Nat) : ∀ {a b : Sto}, a.length ≤ b.length → (∀ (i : Nat) (x : MO), a[i]? = some x → b[i]? = some x ∨ lowM n x = true) → okOld n a b = true
  | [], _, _, _ => by unfold okOld; rfl
  | x :: a, [], hl, _ => absurd hl (by simp)
  | x :: a, y :: b, hl, h => by
    unfold okOld
    rw [Bool.and_eq_true]
    refine ⟨?_, okOld_of n (by simpa using hl) fun i z e => by simpa using h (i + 1) z (by simpa using e)⟩
    rcases h 0 x rfl with q | q
    · cases (show y = x by simpa using q)
      rw [moeq_rfl, Bool.true_or]
    · rw [q, Bool.or_true]
theorem gc_fit {st s : Sto} {x : PV} (hx : low st.length x = true) (hl : st.length ≤ s.length) (h : ∀ (i : Nat) (a : MO), i < st.length → s[i]? = some a → st[i]? = some a ∨ lowM st.length a = true) : gc st x s = .ok x (s.take st.length) := by
  unfold gc
  have e : gcV st.length s 4 x = some x := by
    unfold gcV
    rw [if_pos hx]
  rw [e]
  have o : okOld st.length (s.take st.length) st = true := okOld_of _ (by simp; omega) fun i a q => by
    rw [List.getElem?_take] at q
    split at q
    · rename_i hi
      exact h i a hi q
    · cases q
  simp only [decide_eq_true hl, o, Bool.and_self, if_true]
theorem gc_self {st : Sto} {x : PV} (hx : low st.length x = true) : gc st x st = .ok x st := by
  rw [gc_fit hx (Nat.le_refl _) fun i a _ e => .inl e, List.take_length]
/-! ### loops -/
theorem lcGo_map {t : Tgt} {c : MB} {m : M} {env0 : Lo} {st : Sto} {g : PV → PV} : ∀ {xs : List PV}, (∀ x ∈ xs, ∃ env1, t.run x env0 = some env1 ∧ c env1 st = .ok true st ∧ m env1 st = .ok (g x) st) → lcGo t c m env0 xs st = .ok (xs.map g) st
  | [], _ => rfl
  | x :: xs, h => by
    obtain ⟨env1, h1, h2, h3⟩ := h x (List.mem_cons_self ..)
    have ih := lcGo_map fun y m => h y (List.mem_cons_of_mem _ m)
    simp only [lcGo, h1, h2, h3, Res.only, Res.bind_ok, if_true, ih, List.map_cons]
theorem gc_bl (st : Sto) (b : Bool) : gc st (.bl b) st = .ok (.bl b) st := gc_self (by unfold low; rfl)
theorem gc_int (st : Sto) (b : Int) : gc st (.int b) st = .ok (.int b) st := gc_self (by unfold low; rfl)
/-! ### the mirrors' steps, as equations -/
def onB {α : Type} : PV → (Bool → Res α) → Res α
  | .bl p, k => k p
  | _, _ => .bad
theorem onB_bl {α : Type} (p : Bool) (k : Bool → Res α) : onB (.bl p) k = k p := rfl
theorem mAnd_eq (a b : M) (env : Lo) (st : Sto) : mAnd a b env st = (a env st).bind fun x s1 => onB x fun p => if p = true then b env s1 else .ok (.bl false) s1 := by
  unfold mAnd
  congr 1; funext x s1
  cases x <;> first | rfl | (rename_i p; cases p <;> rfl)
theorem mOr_eq (a b : M) (env : Lo) (st : Sto) : mOr a b env st = (a env st).bind fun x s1 => onB x fun p => if p = true then .ok (.bl true) s1 else b env s1 := by
  unfold mOr
  congr 1; funext x s1
  cases x <;> first | rfl | (rename_i p; cases p <;> rfl)
theorem mNot_eq (a : M) (env : Lo) (st : Sto) : mNot a env st = (a env st).bind fun x s1 => onB x fun p => .ok (.bl (!p)) s1 := by
  unfold mNot
  congr 1; funext x s1
  cases x <;> rfl
theorem bVal_eq (a : M) (env : Lo) (st : Sto) : bVal a env st = (a env st).bind fun x s1 => onB x fun p => .ok p s1 := by
  unfold bVal
  congr 1; funext x s1
  cases x <;> rfl
theorem mChain_eq (f f' : Se2) (a b c : M) (env : Lo) (st : Sto) : mChain f f' a b c env st = (a env st).bind fun x s1 => (b env s1).bind fun y s2 => (f x y s2).bind fun z s3 => onB z fun p => if p = true then (c env s3).bind fun w s4 => f' y w s4 else .ok (.bl false) s3 := by
  unfold mChain
  congr 1; funext x s1
  congr 1; funext y s2
  congr 1; funext z s3
  cases z <;> first | rfl | (rename_i p; cases p <;> rfl)
theorem ite_ok {α : Type} (p : Prop) [Decidable p] (a b : α) (s : Sto) : (if p then Res.ok a s else Res.ok b s) = Res.ok (if p then a else b) s := by split <;> rfl
theorem ite_bl (p : Prop) [Decidable p] (a b : Bool) : (if p then PV.bl a else PV.bl b) = PV.bl (if p then a else b) := by split <;> rfl
theorem ite_and (p q : Bool) : (if p = true then q else false) = (p && q) := by cases p <;> rfl
theorem ite_or (p q : Bool) : (if p = true then true else q) = (p || q) := by cases p <;> rfl
theorem sIter_tup (xs : List PV) (st : Sto) : sIter (.tup xs) st = .ok xs st := rfl
theorem sIter_lst (xs : List PV) (st : Sto) : sIter (.lst xs) st = .ok xs st := rfl
theorem len_ok_t {xs : List PV} (st : Sto) : sLen [.tup xs] st = .ok (.int xs.length) st := rfl
/-- no reference, no foreign value: its kind is known without the store -/
def flat : PV → Bool
  | .dd _ => false
  | .ref _ => false
  | .raw _ => false
  | .wtp _ => false
  | .err _ => false
  | _ => true
def is_int : PV → Bool
  | .int _ => true
  | .bl _ => true
  | _ => false
theorem isi_int {x : PV} (h : flat x = true) (st : Sto) : sIsi [x, .raw (.ty "int")] st = .ok (.bl (is_int x)) st := by cases x <;> first | (cases h; done) | rfl
def is_bool : PV → Bool
  | .bl _ => true
  | _ => false
theorem isi_bool {x : PV} (h : flat x = true) (st : Sto) : sIsi [x, .raw (.ty "bool")] st = .ok (.bl (is_bool x)) st := by cases x <;> first | (cases h; done) | rfl
def is_str : PV → Bool
  | .str _ => true
  | _ => false
theorem isi_str {x : PV} (h : flat x = true) (st : Sto) : sIsi [x, .raw (.ty "str")] st = .ok (.bl (is_str x)) st := by cases x <;> first | (cases h; done) | rfl
def is_tuple : PV → Bool
  | .tup _ => true
  | _ => false
theorem isi_tuple {x : PV} (h : flat x = true) (st : Sto) : sIsi [x, .raw (.ty "tuple")] st = .ok (.bl (is_tuple x)) st := by cases x <;> first | (cases h; done) | rfl
def is_list : PV → Bool
  | .lst _ => true
  | .rol _ => true
  | _ => false
def is_dict : PV → Bool
  | .dct _ => true
  | _ => false
end Sim
local macro_rules | `(tactic| simp_arith! [$ls,*]) => `(tactic| simp -implicitDefEqProofs only [$ls,*, Sim.defM, Sim.cSeq, Sim.cSet, Sim.cRet, Sim.cIf, Sim.cNil, Sim.cExpr, Sim.Tgt.run, Sim.mVar, Sim.mC, Sim.mApp, Sim.mCons, Sim.mNil, Sim.mBin, Sim.mUn, Sim.mAnd_eq, Sim.mOr_eq, Sim.mNot_eq, Sim.mChain_eq, Sim.bVal_eq, Sim.bNot, Sim.bAnd, Sim.bOr, Sim.onB_bl, Sim.fnN, Sim.Res.bind_ok, Sim.Res.bind_exc, Sim.Res.bind_bad, Sim.ite_ok, Sim.ite_bl, Sim.ite_and, Sim.ite_or, List.map_cons, List.map_nil, List.length_cons, List.length_nil, List.replicate, List.cons_append, List.nil_append, List.append_nil, List.getElem?_cons_zero, List.getElem?_cons_succ, List.getElem?_nil, List.set_cons_zero, List.set_cons_succ, List.set_nil, Nat.add_zero, Nat.zero_add, Nat.reduceAdd, Nat.reduceSub, Nat.reduceEqDiff, if_true, if_false, Bool.false_eq_true, ↓reduceIte, Bool.not_true, Bool.not_false, Bool.not_not, Bool.true_and, Bool.false_and, Bool.and_true, Bool.and_false, Bool.true_or, Bool.false_or, Bool.or_true, Bool.or_false, Sim.gc_bl, Sim.gc_int, Sim.cFor, Sim.mIter, Sim.sIter_tup, Sim.sIter_lst, Sim.is_int, Sim.is_bool, Sim.is_str, Sim.is_tuple, Sim.is_list, Sim.is_dict, Sim.sLe, Sim.sLt, Sim.sGt, Sim.sGe, Sim.sOrd])
namespace Sim
open PySem PySem.Spec PyProof.Rows L2
mutual
/-- data of its own: no reference anywhere, lists and texts of a size that fits -/
def dt : PV → Bool
  | .ref _ => false
  | .raw _ => false
  | .wtp _ => false
  | .err _ => false
  | .dd _ => false
  | .str z => decide (z.length ≤ 16777216)
  | .tup xs => fitL xs && dts xs
  | .lst xs => fitL xs && dts xs
  | .rol xs => fitL xs && dts xs
  | _ => true
def dts : List PV → Bool
  | [] => true
  | x :: xs => dt x && dts xs
end
theorem dts_iff : ∀ {xs : List PV}, dts xs = true ↔ ∀ x ∈ xs, dt x = true
  | [] => by simp [dts]
  | x :: xs => by simp only [dts, Bool.and_eq_true, dts_iff (xs := xs), List.forall_mem_cons]
theorem dt_flat {x : PV} (h : dt x = true) : flat x = true := by cases x <;> first | rfl | (simp [dt] at h)
theorem dt_tup {xs : List PV} (h : dt (.tup xs) = true) : fitL xs = true ∧ ∀ x ∈ xs, dt x = true := by
  simp only [dt, Bool.and_eq_true] at h
  exact ⟨h.1, dts_iff.mp h.2⟩
theorem dt_str {z : Str} (h : dt (.str z) = true) : z.length ≤ 16777216 := by simpa [dt] using h
theorem atI_nat {α : Type} {xs : List α} {i : Nat} (h : i < xs.length) : atI xs (i : Int) = some xs[i] := by
  have e : ixN xs.length (i : Int) = some i := by
    unfold ixN
    rw [if_pos (by omega), if_pos (by omega)]
    simp
  simp only [atI, e, Option.bind_some, List.getElem?_eq_getElem h]
theorem ix0 {x : PV} {xs : List PV} (st : Sto) : sIx (.tup (x :: xs)) (.int 0) st = .ok x st := by
  have := atI_nat (xs := x :: xs) (i := 0) (by simp)
  simp only [sIx]
  rw [show (0 : Int) = ((0 : Nat) : Int) from rfl, this]
  rfl
theorem ix1 {x y : PV} {xs : List PV} (st : Sto) : sIx (.tup (x :: y :: xs)) (.int 1) st = .ok y st := by
  have := atI_nat (xs := x :: y :: xs) (i := 1) (by simp)
  simp only [sIx]
  rw [show (1 : Int) = ((1 : Nat) : Int) from rfl, this]
  rfl
theorem sall_ok {ps : List Bool} (st : Sto) : sAll [.lst (ps.map .bl)] st = .ok (.bl (ps.all id)) st := by
  have : asBs (ps.map PV.bl) = some ps := by
    induction ps with
    | nil => rfl
    | cons p ps ih => simp only [List.map_cons, asBs, ih, Option.map_some]
  simp only [sAll, asL, Option.bind_some, this]
theorem sall_map {xs : List PV} {g : PV → Bool} (st : Sto) : sAll [.lst (xs.map fun x => .bl (g x))] st = .ok (.bl (xs.all g)) st := by
  have := sall_ok (ps := xs.map g) st
  rw [List.map_map] at this
  have e : (List.map g xs).all id = xs.all g := by rw [List.all_map]; rfl
  rw [e] at this
  exact this
/-- a comprehension of one name, whose body changes nothing -/
theorem lc_map {it : iL} {i : Nat} {m : M} {vs : List Nat} {env : Lo} {st : Sto} {xs : List PV} {g : PV → PV} (hi : it env st = .ok xs st) (hf : fitL xs = true) (h : ∀ x ∈ xs, m ((wipeL env vs).set i (some x)) st = .ok (g x) st) :
    mLc it (.one i) bYes m vs env st = .ok (.lst (xs.map g)) st := by
  simp only [mLc, hi, Res.bind_ok, hf, if_true]
  rw [lcGo_map fun x hx => ⟨_, rfl, rfl, h x hx⟩]
  rfl
/-- the same of tests, for all(...) -/
theorem lc_all {it : iL} {i : Nat} {m : M} {vs : List Nat} {env : Lo} {st : Sto} {xs : List PV} {g : PV → Bool} (hi : it env st = .ok xs st) (hf : fitL xs = true) (h : ∀ x ∈ xs, m ((wipeL env vs).set i (some x)) st = .ok (.bl (g x)) st) :
    mLc it (.one i) bYes m vs env st = .ok (.lst (xs.map fun x => .bl (g x))) st := lc_map hi hf h
/-! ### texts, sign by sign -/
theorem fit_signs {z : Str} (h : z.length ≤ 16777216) : fitL (Sim.signs z) = true := by
  unfold fitL Sim.signs
  rw [List.length_map, Array.length_toList]
  exact decide_eq_true h
theorem lenS {z : Str} (h : z.length ≤ 16777216) (st : Sto) : sLen [.str z] st = .ok (.int z.length) st := by
  show (if decide (z.length ≤ 16777216) = true then Res.ok (PV.int z.length) st else .bad) = _
  rw [if_pos (decide_eq_true h)]
theorem lex1 (a b : Nat) : decide ([a] < [b]) = decide (a < b) := by
  rw [decide_eq_decide, List.cons_lt_cons_iff]
  exact ⟨fun h => h.elim id fun q => absurd q.2 (List.not_lt_nil _), .inl⟩
def sgn : PV → Nat
  | .str z => z.cps.toList.headD 0
  | _ => 0
theorem all_signs (z : Str) (f : Nat → Bool) : (Sim.signs z).all (fun x => f (sgn x)) = z.cps.toList.all f := by
  unfold Sim.signs
  rw [List.all_map]
  congr 1
theorem mem_signs {z : Str} {x : PV} (h : x ∈ Sim.signs z) : ∃ c, x = .str ⟨#[c]⟩ := by
  obtain ⟨c, _, rfl⟩ := List.mem_map.mp h
  exact ⟨c, rfl⟩
/-! ### lists of texts -/
theorem asStrs_map : ∀ ws : List Str, asStrs (ws.map .str) = some ws
  | [] => rfl
  | w :: ws => by simp only [List.map_cons, asStrs, asStrs_map ws, Option.map_some]
theorem toDs_strs : ∀ ws : List Str, toDs (ws.map .str) = some (ws.map .str)
  | [] => rfl
  | w :: ws => by simp only [List.map_cons, toDs, toD, toDs_strs ws]
theorem eqvAll_strs : ∀ a b : List Str, PyData.eqvAll (a.map .str) (b.map .str) = decide (a = b)
  | [], [] => rfl
  | [], _ :: _ => rfl
  | _ :: _, [] => rfl
  | x :: a, y :: b => by
    simp only [List.map_cons, PyData.eqvAll, PyData.eqv, eqvAll_strs a b]
    rw [Bool.eq_iff_iff]
    simp
theorem depth_strs : ∀ ws : List Str, PyData.depthAll (ws.map .str) ≤ 1
  | [] => by simp [PyData.depthAll]
  | w :: ws => by
    have := depth_strs ws
    simp only [List.map_cons, PyData.depthAll, PyData.depth]
    omega
theorem shaped_strs {ws : List Str} (h : ∀ w ∈ ws, PyData.strOk w = true) : SeqAt.shaped (.list (ws.map .str)) = true := by
  have h1 : PyData.canLayAll0 (ws.map .str) = true := by
    rw [PyProof.Rows.canLayAll_strs']
    simpa [List.all_eq_true] using h
  have h2 := depth_strs ws
  have h3 : PyData.depth (.list (ws.map .str)) ≤ 64 := by simp only [PyData.depth]; omega
  have h4 : PyData.canLay0 (.list (ws.map .str)) = true := by simpa only [PyData.canLay0] using h1
  unfold SeqAt.shaped
  rw [h4, decide_eq_true h3]
  rfl
theorem eq_strs {a b : List Str} (ha : ∀ w ∈ a, PyData.strOk w = true) (hb : ∀ w ∈ b, PyData.strOk w = true) (st : Sto) : sEqn false (.lst (a.map .str)) (.lst (b.map .str)) st = .ok (.bl (decide (a = b))) st := by
  have e : ∀ ws : List Str, toDS st (.lst (ws.map .str)) = some (.list (ws.map .str)) := fun ws => by simp only [toDS, toD, toDs_strs, Option.map_some]
  have f : flatEq (.lst (a.map .str)) (.lst (b.map .str)) = none := rfl
  unfold sEqn
  simp only [f, e, shaped_strs ha, shaped_strs hb, Bool.and_self, if_true, PyData.eqv, eqvAll_strs, Bool.false_eq_true, if_false]
theorem sortset_ok {ws : List Str} (h : ws.length < 40) (st : Sto) : sSortSet (.lst (ws.map .str)) st = .ok (.lst ((sortU ws).map .str)) st := by
  simp only [sSortSet, asL, Option.bind_some, asStrs_map, decide_eq_true h, if_true]
/-! ### more loops -/
/-- rising: each below the one behind it -/
def upP : List Str → Bool
  | a :: b :: r => decide (a.cps.toList < b.cps.toList) && upP (b :: r)
  | _ => true
theorem up_pw : ∀ {ws : List Str}, upP ws = true ↔ ws.Pairwise ltS
  | [] => by simp [upP]
  | [a] => by simp [upP]
  | a :: b :: r => by
    have ih := up_pw (ws := b :: r)
    simp only [upP, Bool.and_eq_true, decide_eq_true_eq, ih]
    constructor
    · rintro ⟨h1, h2⟩
      refine List.pairwise_cons.mpr ⟨fun c hc => ?_, h2⟩
      rcases List.mem_cons.mp hc with rfl | hc
      · exact h1
      · exact List.lt_trans h1 ((List.pairwise_cons.mp h2).1 c hc)
    · intro h
      obtain ⟨h1, h2⟩ := List.pairwise_cons.mp h
      exact ⟨h1 b (List.mem_cons_self ..), h2⟩
theorem up_sort {ws : List Str} : upP ws = decide (ws = sortU ws) := by
  rw [Bool.eq_iff_iff, up_pw, decide_eq_true_eq]
  constructor
  · intro h
    exact asc_same h (sortU_asc ws) fun k => (sortU_mem k ws).symm
  · intro h
    rw [h]
    exact sortU_asc ws
end Sim
set_option Elab.async false
set_option linter.all false
set_option maxRecDepth 100000
set_option maxHeartbeats 400000
namespace Sim
open PySem PySem.Spec PyProof.Rows L2
/-! ### data that can be shown: of a depth, of a size -/
mutual
def nv : Nat → PV → Bool
  | _, .non => true
  | _, .bl _ => true
  | _, .int i => decide (-999999999999 ≤ i) && decide (i ≤ 1000000000000)
  | _, .str z => decide (z.length ≤ 1000) && z.cps.toList.all (fun c => decide (c < 1114112))
  | n + 1, .tup xs => nvs n xs
  | n + 1, .lst xs => nvs n xs
  | _ + 1, .dct kvs => kvs.isEmpty
  | _, _ => false
def nvs : Nat → List PV → Bool
  | _, [] => true
  | n, x :: xs => nv n x && nvs n xs
end
mutual
def sz : PV → Nat
  | .str z => z.cps.size
  | .tup xs => szs xs
  | .lst xs => szs xs
  | _ => 0
def szs : List PV → Nat
  | [] => 0
  | x :: xs => sz x + 1 + szs xs
end
theorem nvs_iff {n : Nat} : ∀ {xs : List PV}, nvs n xs = true ↔ ∀ x ∈ xs, nv n x = true
  | [] => by simp [nvs]
  | x :: xs => by simp only [nvs, Bool.and_eq_true, nvs_iff (xs := xs), List.forall_mem_cons]
theorem szs_len : ∀ xs : List PV, xs.length ≤ szs xs
  | [] => by simp
  | x :: xs => by
    have := szs_len xs
    simp only [szs, List.length_cons]
    omega
mutual
theorem nv_dt : ∀ {n : Nat} {x : PV}, nv n x = true → sz x ≤ 2 ^ 20 → dt x = true
  | _, .non, _, _ => rfl
  | _, .bl _, _, _ => rfl
  | _, .int _, _, _ => rfl
  | _, .str z, h, _ => by
    simp only [nv, Bool.and_eq_true, decide_eq_true_eq] at h
    simp only [dt, decide_eq_true_eq]
    omega
  | n + 1, .tup xs, h, hz => by
    simp only [nv] at h
    simp only [sz] at hz
    have := szs_len xs
    have e : fitL xs = true := decide_eq_true (by omega)
    simp only [dt, e, Bool.true_and]
    exact nvs_dt h hz
  | n + 1, .lst xs, h, hz => by
    simp only [nv] at h
    simp only [sz] at hz
    have := szs_len xs
    have e : fitL xs = true := decide_eq_true (by omega)
    simp only [dt, e, Bool.true_and]
    exact nvs_dt h hz
  | _ + 1, .dct _, _, _ => rfl
  | 0, .tup _, h, _ => nomatch h
  | 0, .lst _, h, _ => nomatch h
  | 0, .dct _, h, _ => nomatch h
  | 0, .rol _, h, _ => nomatch h
  | 0, .ref _, h, _ => nomatch h
  | 0, .raw _, h, _ => nomatch h
  | _ + 1, .rol _, h, _ => nomatch h
  | _ + 1, .ref _, h, _ => nomatch h
  | _ + 1, .raw _, h, _ => nomatch h
theorem nvs_dt : ∀ {n : Nat} {xs : List PV}, nvs n xs = true → szs xs ≤ 2 ^ 20 → dts xs = true
  | _, [], _, _ => rfl
  | n, x :: xs, h, hz => by
    simp only [nvs, Bool.and_eq_true] at h
    simp only [szs] at hz
    simp only [dts, nv_dt h.1 (by omega), nvs_dt h.2 (by omega), Bool.and_self]
end
mutual
/-- no dict in it -/
def pl : PV → Bool
  | .tup xs => pls xs
  | .lst xs => pls xs
  | .dct _ => false
  | _ => true
def pls : List PV → Bool
  | [] => true
  | x :: xs => pl x && pls xs
end
theorem pls_iff : ∀ {xs : List PV}, pls xs = true ↔ ∀ x ∈ xs, pl x = true
  | [] => by simp [pls]
  | x :: xs => by simp only [pls, Bool.and_eq_true, pls_iff (xs := xs), List.forall_mem_cons]
mutual
theorem nv_plain : ∀ {n : Nat} {x : PV}, nv n x = true → pl x = true → ∃ d, toD x = some d ∧ d.canLay0 = true ∧ d.depth ≤ n
  | _, .non, _, _ => ⟨.none, rfl, rfl, Nat.zero_le _⟩
  | _, .bl b, _, _ => ⟨.bool b, rfl, rfl, Nat.zero_le _⟩
  | _, .int i, _, _ => ⟨.int i, rfl, rfl, Nat.zero_le _⟩
  | _, .str z, h, _ => by
    simp only [nv, Bool.and_eq_true, decide_eq_true_eq, List.all_eq_true] at h
    refine ⟨.str z, rfl, ?_, Nat.zero_le _⟩
    show z.cps.all (· < 0x110000) = true
    rw [Array.all_eq_true_iff_forall_mem]
    intro c hc
    exact decide_eq_true (h.2 c (Array.mem_toList_iff.mpr hc))
  | n + 1, .tup xs, h, hp => by
    simp only [nv] at h
    simp only [pl] at hp
    obtain ⟨ds, q1, q2, q3⟩ := nvs_plain h hp
    exact ⟨.tuple ds, by simp only [toD, q1, Option.map_some], by simp only [PyData.canLay0, q2], by simp only [PyData.depth]; omega⟩
  | n + 1, .lst xs, h, hp => by
    simp only [nv] at h
    simp only [pl] at hp
    obtain ⟨ds, q1, q2, q3⟩ := nvs_plain h hp
    exact ⟨.list ds, by simp only [toD, q1, Option.map_some], by simp only [PyData.canLay0, q2], by simp only [PyData.depth]; omega⟩
  | _ + 1, .dct _, _, h => nomatch h
  | 0, .tup _, h, _ => nomatch h
  | 0, .lst _, h, _ => nomatch h
  | 0, .dct _, h, _ => nomatch h
  | 0, .rol _, h, _ => nomatch h
  | 0, .ref _, h, _ => nomatch h
  | 0, .raw _, h, _ => nomatch h
  | _ + 1, .rol _, h, _ => nomatch h
  | _ + 1, .ref _, h, _ => nomatch h
  | _ + 1, .raw _, h, _ => nomatch h
theorem nvs_plain : ∀ {n : Nat} {xs : List PV}, nvs n xs = true → pls xs = true → ∃ ds, toDs xs = some ds ∧ PyData.canLayAll0 ds = true ∧ PyData.depthAll ds ≤ n
  | _, [], _, _ => ⟨[], rfl, rfl, Nat.zero_le _⟩
  | n, x :: xs, h, hp => by
    simp only [nvs, Bool.and_eq_true] at h
    simp only [pls, Bool.and_eq_true] at hp
    obtain ⟨d, q1, q2, q3⟩ := nv_plain h.1 hp.1
    obtain ⟨ds, l1, l2, l3⟩ := nvs_plain h.2 hp.2
    exact ⟨d :: ds, by simp only [toDs, q1, l1], by simp only [PyData.canLayAll0, q2, l2, Bool.and_self], by simp only [PyData.depthAll]; omega⟩
end
theorem plain_shaped {n : Nat} {x : PV} (hn : n ≤ 64) (h : nv n x = true) (hp : pl x = true) : ∃ d, toD x = some d ∧ SeqAt.shaped d = true := by
  obtain ⟨d, q1, q2, q3⟩ := nv_plain h hp
  exact ⟨d, q1, by unfold SeqAt.shaped; rw [q2, decide_eq_true (Nat.le_trans q3 hn)]; rfl⟩
/-! ### lists of values written down, with places for values that are not -/
mutual
/-- a text with places: .ref k stands for the k-th value -/
def ins (ρ : Nat → PV) : PV → PV
  | .ref k => ρ k
  | .tup xs => .tup (inss ρ xs)
  | .lst xs => .lst (inss ρ xs)
  | x => x
def inss (ρ : Nat → PV) : List PV → List PV
  | [] => []
  | x :: xs => ins ρ x :: inss ρ xs
end
mutual
theorem nv_mono : ∀ {n m : Nat} {x : PV}, n ≤ m → nv n x = true → nv m x = true
  | _, _, .non, _, _ => by simp only [nv]
  | _, _, .bl _, _, _ => by simp only [nv]
  | _, _, .int _, _, h => by simpa only [nv] using h
  | _, _, .str _, _, h => by simpa only [nv] using h
  | n + 1, m + 1, .tup xs, l, h => by simp only [nv] at h ⊢; exact nvs_mono (Nat.le_of_succ_le_succ l) h
  | n + 1, m + 1, .lst xs, l, h => by simp only [nv] at h ⊢; exact nvs_mono (Nat.le_of_succ_le_succ l) h
  | n + 1, m + 1, .dct kvs, l, h => by simpa only [nv] using h
  | n + 1, 0, .tup _, l, h => by omega
  | n + 1, 0, .lst _, l, h => by omega
  | n + 1, 0, .dct _, l, h => by omega
  | 0, _, .tup _, _, h => nomatch h
  | 0, _, .lst _, _, h => nomatch h
  | 0, _, .dct _, _, h => nomatch h
  | 0, _, .rol _, _, h => nomatch h
  | 0, _, .ref _, _, h => nomatch h
  | 0, _, .raw _, _, h => nomatch h
  | _ + 1, _, .rol _, _, h => nomatch h
  | _ + 1, _, .ref _, _, h => nomatch h
  | _ + 1, _, .raw _, _, h => nomatch h
theorem nvs_mono : ∀ {n m : Nat} {xs : List PV}, n ≤ m → nvs n xs = true → nvs m xs = true
  | _, _, [], _, _ => by simp only [nvs]
  | _, _, x :: xs, l, h => by
    simp only [nvs, Bool.and_eq_true] at h ⊢
    exact ⟨nv_mono l h.1, nvs_mono l h.2⟩
end
mutual
theorem low_nv : ∀ {n k : Nat} {x : PV}, nv n x = true → low k x = true
  | _, _, .non, _ => rfl
  | _, _, .bl _, _ => rfl
  | _, _, .int _, _ => rfl
  | _, _, .str _, _ => rfl
  | n + 1, _, .tup xs, h => by simp only [nv] at h; simp only [low]; exact lows_nv h
  | n + 1, _, .lst xs, h => by simp only [nv] at h; simp only [low]; exact lows_nv h
  | n + 1, _, .dct kvs, h => by
    simp only [nv, List.isEmpty_iff] at h
    subst h
    rfl
  | 0, _, .tup _, h => nomatch h
  | 0, _, .lst _, h => nomatch h
  | 0, _, .dct _, h => nomatch h
  | 0, _, .rol _, h => nomatch h
  | 0, _, .ref _, h => nomatch h
  | 0, _, .raw _, h => nomatch h
  | _ + 1, _, .rol _, h => nomatch h
  | _ + 1, _, .ref _, h => nomatch h
  | _ + 1, _, .raw _, h => nomatch h
theorem lows_nv : ∀ {n k : Nat} {xs : List PV}, nvs n xs = true → lows k xs = true
  | _, _, [], _ => rfl
  | _, _, x :: xs, h => by
    simp only [nvs, Bool.and_eq_true] at h
    simp only [lows, Bool.and_eq_true]
    exact ⟨low_nv h.1, lows_nv h.2⟩
end
/-! ### loops told by what is known at each turn -/
theorem for_inv {t : Tgt} {body : MS} (I : List PV → Lo → Sto → Prop) (step : ∀ x xs e s, I (x :: xs) e s → ∃ e1, t.run x e = some e1 ∧ ∃ e2 s2, body e1 s = .nx e2 s2 ∧ I xs e2 s2) :
    ∀ {xs : List PV} {e : Lo} {s : Sto}, I xs e s → ∃ e2 s2, forGo t body xs e s = .nx e2 s2 ∧ I [] e2 s2
  | [], e, s, h => ⟨e, s, rfl, h⟩
  | x :: xs, e, s, h => by
    obtain ⟨e1, q1, e2, s2, q2, q3⟩ := step x xs e s h
    simp only [forGo, q1, q2]
    exact for_inv I step q3
/-! ### a list of one's own at the end of the store -/
theorem get_end (st : Sto) (x : MO) : (st ++ [x])[st.length]? = some x := by simp
theorem set_end (st : Sto) (x y : MO) : (st ++ [x]).set st.length y = st ++ [y] := by simp
theorem app_ok {st : Sto} {xs : List PV} {L : Nat} (h : st[L]? = some (.lst xs)) (hl : xs.length < 16777216) (y : PV) : sApp (.ref L) y st = .ok .non (st.set L (.lst (xs ++ [y]))) := by
  simp only [sApp, h, decide_eq_true hl, if_true]
theorem isl_ok {st : Sto} {xs : List PV} {L : Nat} (h : st[L]? = some (.lst xs)) : isLst (.ref L) st = true := by
  simp only [isLst, h]
theorem ixRM {st : Sto} {L : Nat} {xs : List PV} (h0 : st[L]? = some (.lst xs)) {i : Nat} (h : i < xs.length) : sIx (.ref L) (.int i) st = .ok xs[i] st := by
  simp only [sIx, asD, asL, h0, atI_nat h]
theorem tupM {st : Sto} {L : Nat} {xs : List PV} (h0 : st[L]? = some (.lst xs)) : sTuple [.ref L] st = .ok (.tup xs) st := by
  simp only [sTuple, asL, h0]
theorem set_same {st : Sto} {k : Nat} {x : MO} (h : st[k]? = some x) : st.set k x = st := by
  apply List.ext_getElem?
  intro i
  rw [List.getElem?_set]
  split
  · rename_i e
    subst e
    split
    · exact h.symm
    · rename_i q
      rw [List.getElem?_eq_none (by omega)] at h
      cases h
  · rfl
theorem cIf_f {c : MB} {a b : MS} {env : Lo} {st s : Sto} (h : c env st = .ok false s) : cIf c a b env st = b env s := by
  simp only [cIf, h, Bool.false_eq_true, if_false]
theorem cIf_t {c : MB} {a b : MS} {env : Lo} {st s : Sto} (h : c env st = .ok true s) : cIf c a b env st = a env s := by
  simp only [cIf, h, if_true]
end Sim
set_option Elab.async false
set_option linter.all false
set_option maxRecDepth 100000
set_option maxHeartbeats 4000000
namespace Sim
open PySem PySem.Spec PyProof.Rows L2
variable [Tb] [Lm]
/-! ### what never comes to pass -/
def cBad : MS := fun _ _ => .bad
section
variable {X : Cx} {T : String → Value} {E : XK}
theorem s_bad {s : Stmt} : SX X T E s cBad := ⟨fun pp s σ H D I ⟨g, st, env, so, en, h⟩ => (show False from h).elim⟩
end
/-! ### name += e, of ints -/
/-! ### dict(x) of pairs -/
def putP (kvs : List (Key × PV)) (k : Key) (v : PV) : List (Key × PV) :=
  if (kvs.any fun kv => decide (kv.1 = k)) = true then kvs.map (fun kv => if kv.1 = k then (kv.1, v) else kv) else kvs ++ [(k, v)]
section
variable {K : PySem.W.Frag} {g : G} {H : Hp}
theorem RVK.put {x : PV} {v : V} (r : RV K g H x v) (k : Key) {kvs : List (Key × PV)} {ws : List (Key × V)} (l : RVK K g H kvs ws) : RVK K g H (putP kvs k x) (putK ws k v) := by
  have a : ∀ {kvs : List (Key × PV)} {ws : List (Key × V)}, RVK K g H kvs ws → (kvs.any fun kv => decide (kv.1 = k)) = (ws.any fun kv => decide (kv.1 = k)) := by
    intro kvs
    induction kvs with
    | nil => intro ws l; cases l; rfl
    | cons p ps ih => intro ws l; cases l with | cons r l => simp only [List.any_cons, ih l]
  unfold putP putK
  rw [a l]
  split
  · rename_i hh
    clear a hh
    induction kvs generalizing ws with
    | nil => cases l; exact .nil
    | cons p ps ih =>
      cases l with
      | cons r' l =>
        simp only [List.map_cons]
        split
        · exact .cons r (ih l)
        · exact .cons r' (ih l)
  · rename_i hh
    clear a hh
    induction kvs generalizing ws with
    | nil => cases l; exact .cons r .nil
    | cons p ps ih => cases l with | cons r' l => exact .cons r' (ih l)
end
end Sim
set_option Elab.async false
set_option linter.all false
set_option maxRecDepth 100000
set_option maxHeartbeats 4000000
namespace Sim
open PySem PySem.Spec PyProof.Rows L2
variable [Tb] [Lm]
/-! ### dict comprehensions -/
section
variable {T : String → Value} {K : PySem.W.Frag} {E E' : XK}
theorem RVK.len {g : G} {H : Hp} : ∀ {kvs : List (Key × PV)} {ws : List (Key × V)}, RVK K g H kvs ws → kvs.length = ws.length
  | _, _, .nil => rfl
  | _, _, .cons _ l => by simp only [List.length_cons, l.len]
end
section
variable {X : Cx} {T : String → Value} {E : XK} {kx vx tg iter : Expr} {ifs : List Expr} {scope : Scope} {own : List (Str × Nat)} {pos : Pos} {mi : iL} {t : Tgt} {c : MB} {mk mv : M}
/-! ### -e -/
def sNeg : Se1 := fun x st => match x with
  | .int i => .ok (.int (-i)) st
  | _ => .bad
theorem s_neg : S1 T X.K E (rU fun i => .int (-i)) sNeg := by
  intro g H st x v Q s r h
  unfold sNeg at h
  split at h
  · cases r
    exact ⟨_, rfl, okR.fin h s (.int _)⟩
  · exact h.elim
/-! ### sorted of ints -/
end
/-! ### a def whose new lists may be changed by who called it -/
end Sim
set_option Elab.async false
set_option linter.all false
set_option maxRecDepth 100000
set_option maxHeartbeats 4000000
namespace Sim
open PySem PySem.Spec PyProof.Rows L2
/-! ### what a mirror's run leads to -/
def wR {α : Type} (r : Res α) (Q : α → Sto → Prop) : Prop := match r with
  | .ok a s => Q a s
  | _ => False
def wO (o : Out) (N : Lo → Sto → Prop) (R : PV → Sto → Prop) (B C : Lo → Sto → Prop) : Prop := match o with
  | .nx e s => N e s
  | .rt v s => R v s
  | .bk e s => B e s
  | .ct e s => C e s
  | _ => False
section
variable {α β : Type} {Q Q' : α → Sto → Prop} {N N' : Lo → Sto → Prop} {R R' : PV → Sto → Prop} {B C : Lo → Sto → Prop} {env : Lo} {st : Sto}
theorem wR.imp {r : Res α} (h : wR r Q) (i : ∀ a s, Q a s → Q' a s) : wR r Q' := by
  cases r with
  | ok a s => exact i a s h
  | exc n fs s => exact h
  | bad => exact h
theorem wR.get {r : Res α} (h : wR r Q) : ∃ a s, r = .ok a s ∧ Q a s := by
  cases r with
  | ok a s => exact ⟨a, s, rfl, h⟩
  | exc n fs s => exact h.elim
  | bad => exact h.elim
theorem wR_eq {r : Res α} {a : α} {s : Sto} (h : r = .ok a s) (q : Q a s) : wR r Q := by rw [h]; exact q
theorem wR_ok (a : α) (s : Sto) : wR (.ok a s) Q = Q a s := rfl
theorem wR_bind {r : Res β} {k : β → Sto → Res α} : wR (r.bind k) Q = wR r (fun a s => wR (k a s) Q) := by cases r <;> rfl
theorem wR_ite (p : Prop) [Decidable p] (a b : Res α) : wR (if p then a else b) Q = if p then wR a Q else wR b Q := by split <;> rfl
theorem wO.imp {o : Out} (h : wO o N R B C) (n : ∀ e s, N e s → N' e s) (r : ∀ v s, R v s → R' v s) : wO o N' R' B C := by
  cases o with
  | nx e s => exact n e s h
  | rt v s => exact r v s h
  | bk e s => exact h
  | ct e s => exact h
  | exc n fs s => exact h
  | bad => exact h
theorem wO_nx (e : Lo) (s : Sto) : wO (.nx e s) N R B C = N e s := rfl
theorem wO_seq {a b : MS} : wO (cSeq a b env st) N R B C = wO (a env st) (fun e s => wO (b e s) N R B C) R B C := by
  unfold cSeq; cases a env st <;> rfl
theorem wO_nil : wO (cNil env st) N R B C = N env st := rfl
theorem wO_break : wO (cBreak env st) N R B C = B env st := rfl
theorem wO_cont : wO (cCont env st) N R B C = C env st := rfl
theorem wO_retN : wO (cRetN env st) N R B C = R .non st := rfl
theorem wO_set1 {i : Nat} {m : M} : wO (cSet (.one i) m env st) N R B C = wR (m env st) (fun x s => N (env.set i (some x)) s) := by
  unfold cSet; cases m env st <;> rfl
theorem wO_setMany {is : List Nat} {m : M} : wO (cSet (.many is) m env st) N R B C = wR (m env st) (fun x s => ∃ e, (Tgt.many is).run x env = some e ∧ N e s) := by
  unfold cSet
  cases m env st with
  | ok x s =>
    simp only [wR]
    cases q : (Tgt.many is).run x env with
    | none => simp [wO]
    | some e => simp [wO]
  | _ => rfl
theorem wO_expr {m : M} : wO (cExpr m env st) N R B C = wR (m env st) (fun _ s => N env s) := by
  unfold cExpr; cases m env st <;> rfl
theorem wO_ret {m : M} : wO (cRet m env st) N R B C = wR (m env st) R := by
  unfold cRet; cases m env st <;> rfl
theorem wO_if {c : MB} {a b : MS} : wO (cIf c a b env st) N R B C = wR (c env st) (fun k s => if k = true then wO (a env s) N R B C else wO (b env s) N R B C) := by
  unfold cIf
  cases c env st with
  | ok k s => simp only [wR]; split <;> rfl
  | _ => rfl
theorem wO_for {it : iL} {t : Tgt} {body : MS} : wO (cFor it t body env st) N R B C = wR (it env st) (fun xs s => wO (forGo t body xs env s) N R B C) := by
  unfold cFor; cases it env st <;> rfl
/-- what holds between two statements -/
theorem w_cut {a b : MS} (M : Lo → Sto → Prop) (h : wO (a env st) M R B C) (h2 : ∀ e s, M e s → wO (b e s) N R B C) : wO (cSeq a b env st) N R B C := by
  rw [wO_seq]
  exact h.imp h2 fun _ _ q => q
theorem w_cut2 {a b c : MS} (M : Lo → Sto → Prop) (h : wO (cSeq a b env st) M R B C) (h2 : ∀ e s, M e s → wO (c e s) N R B C) : wO (cSeq a (cSeq b c) env st) N R B C := by
  rw [wO_seq] at h ⊢
  exact h.imp (fun e s q => by rw [wO_seq]; exact q.imp h2 fun _ _ q => q) fun _ _ q => q
/-- a for, by what holds between two turns -/
theorem w_forGo {t : Tgt} {body : MS} (I : List PV → Lo → Sto → Prop) (step : ∀ x xs e s, I (x :: xs) e s → ∃ e1, t.run x e = some e1 ∧ wO (body e1 s) (I xs) R N (I xs)) (fin : ∀ e s, I [] e s → N e s) :
    ∀ {xs : List PV} {e : Lo} {s : Sto}, I xs e s → wO (forGo t body xs e s) N R B C
  | [], e, s, h => fin e s h
  | x :: xs, e, s, h => by
    obtain ⟨e1, q, w⟩ := step x xs e s h
    simp only [forGo, q]
    cases z : body e1 s with
    | nx e s => rw [z] at w; exact w_forGo I step fin w
    | ct e s => rw [z] at w; exact w_forGo I step fin w
    | bk e s => rw [z] at w; exact w
    | rt v s => rw [z] at w; exact w
    | exc n fs s => rw [z] at w; exact w.elim
    | bad => rw [z] at w; exact w.elim
/-- a comprehension: each item its own value, something kept of the store -/
theorem w_lcGo {t : Tgt} {m : M} {env0 : Lo} {Q : List PV → Sto → Prop} (P : PV → PV → Prop) (I : Sto → Prop) : ∀ {xs : List PV} {s : Sto}, (∀ x ∈ xs, ∀ s, I s → ∃ e, t.run x env0 = some e ∧ wR (m e s) (fun y s2 => P x y ∧ I s2)) → I s →
    (∀ ys s2, ys.length = xs.length → (∀ p ∈ xs.zip ys, P p.1 p.2) → I s2 → Q ys s2) → wR (lcGo t bYes m env0 xs s) Q
  | [], s, _, h, q => q [] s rfl (by simp) h
  | x :: xs, s, st, h, q => by
    obtain ⟨e, r, w⟩ := st x (List.mem_cons_self ..) s h
    obtain ⟨y, s2, e2, hp, hi⟩ := w.get
    simp only [lcGo, r, bYes, Res.only, Res.bind_ok, if_true, e2]
    rw [wR_bind]
    refine w_lcGo P I (fun z hz => st z (List.mem_cons_of_mem _ hz)) hi fun ys s3 hl hz hi3 => ?_
    refine q (y :: ys) s3 (by simp [hl]) (fun p hp2 => ?_) hi3
    rw [List.zip_cons_cons] at hp2
    rcases List.mem_cons.mp hp2 with rfl | hp2
    · exact hp
    · exact hz p hp2
/-- .. a guard and a value that are told -/
theorem lcGo_fm {t : Tgt} {c : MB} {m : M} {env0 : Lo} {st : Sto} (p : PV → Bool) (g : PV → PV) : ∀ {xs : List PV}, (∀ x ∈ xs, ∃ e, t.run x env0 = some e ∧ c e st = .ok (p x) st ∧ (p x = true → m e st = .ok (g x) st)) → lcGo t c m env0 xs st = .ok ((xs.filter p).map g) st
  | [], _ => rfl
  | x :: xs, h => by
    obtain ⟨e, r, c1, m1⟩ := h x (List.mem_cons_self ..)
    have ih := lcGo_fm p g fun y hy => h y (List.mem_cons_of_mem _ hy)
    simp only [lcGo, r, c1, Res.only, Res.bind_ok]
    cases hp : p x with
    | true => simp only [if_true, m1 hp, Res.bind_ok, ih, List.filter_cons, hp, List.map_cons]
    | false => simp only [Bool.false_eq_true, if_false, ih, List.filter_cons, hp]
theorem lcGo_maps {t : Tgt} {m : M} {env0 : Lo} {st : Sto} (g : PV → PV) {xs : List PV} (h : ∀ x ∈ xs, ∃ e, t.run x env0 = some e ∧ m e st = .ok (g x) st) : lcGo t bYes m env0 xs st = .ok (xs.map g) st := by
  have := lcGo_fm (c := bYes) (fun _ => true) g (t := t) (m := m) (env0 := env0) (st := st) (xs := xs) fun x hx => by
    obtain ⟨e, r, q⟩ := h x hx
    exact ⟨e, r, rfl, fun _ => q⟩
  rw [this, List.filter_eq_self.mpr (fun _ _ => rfl)]
theorem lcGo_rel {α : Type} {t : Tgt} {m : M} {env0 : Lo} {st : Sto} (f g : α → PV) : ∀ (l : List α), (∀ a ∈ l, ∃ e, t.run (f a) env0 = some e ∧ m e st = .ok (g a) st) → lcGo t bYes m env0 (l.map f) st = .ok (l.map g) st
  | [], _ => rfl
  | a :: l, h => by
    obtain ⟨e, r, q⟩ := h a (List.mem_cons_self ..)
    have ih := lcGo_rel f g l fun b hb => h b (List.mem_cons_of_mem _ hb)
    simp only [List.map_cons, lcGo, r, bYes, Res.only, Res.bind_ok, if_true, q, ih]
theorem w_defM {n : Nat} {b : MS} {xs : List PV} {Q : PV → Sto → Prop} (h : wO (b (xs.map some ++ List.replicate (n - xs.length) none) st) (fun _ s => wR (gc st .non s) Q) (fun v s => wR (gc st v s) Q) (fun _ _ => False) (fun _ _ => False)) : wR (defM n b xs st) Q := by
  unfold defM
  cases z : b (xs.map some ++ List.replicate (n - xs.length) none) st with
  | nx e s => rw [z] at h; exact h
  | rt e s => rw [z] at h; exact h
  | bk e s => rw [z] at h; exact h.elim
  | ct e s => rw [z] at h; exact h.elim
  | exc n fs s => rw [z] at h; exact h.elim
  | bad => rw [z] at h; exact h.elim
end
/-! ### what is dropped at the end of a def -/
theorem gcV_low {n : Nat} {s : Sto} {d : Nat} {x : PV} (h : low n x = true) : gcV n s d x = some x := by
  cases d <;> simp only [gcV, h, if_true]
/-- nothing older was changed, the value holds nothing newer -/
theorem gc_keep {st t : Sto} {x : PV} (h : low st.length x = true) : gc st x (st ++ t) = .ok x st := by
  have e : (st ++ t).take st.length = st := by simp
  unfold gc
  simp only [gcV_low h, e]
  rw [okOld_of st.length (Nat.le_refl _) fun i a q => .inl q]
  simp
/-! ### the store with one int in a list, drawn from -/
def Dr (k : Nat) (st : Sto) : Prop := ∃ a : Int, st[k]? = some (.lst [.int a])
def Up (k : Nat) (st s : Sto) : Prop := ∃ a : Int, s = st.set k (.lst [.int a])
theorem Dr.lt {k : Nat} {st : Sto} (h : Dr k st) : k < st.length := let ⟨_, e⟩ := h; (List.getElem?_eq_some_iff.mp e).1
theorem Dr.up {k : Nat} {st : Sto} (h : Dr k st) : Up k st st := by
  obtain ⟨a, e⟩ := h
  exact ⟨a, (set_same e).symm⟩
theorem Up.len {k : Nat} {st s : Sto} (h : Up k st s) : s.length = st.length := by
  obtain ⟨a, rfl⟩ := h; simp
theorem Up.dr {k : Nat} {st s : Sto} (h : Up k st s) (hk : k < st.length) : Dr k s := by
  obtain ⟨a, rfl⟩ := h; exact ⟨a, by simp [hk]⟩
theorem Up.trans {k : Nat} {st s s' : Sto} (h : Up k st s) (h' : Up k s s') : Up k st s' := by
  obtain ⟨a, rfl⟩ := h; obtain ⟨b, rfl⟩ := h'
  exact ⟨b, by simp⟩
theorem Up.split {k : Nat} {st t s : Sto} (h : Up k (st ++ t) s) (hk : k < st.length) : ∃ s1, Up k st s1 ∧ s = s1 ++ t := by
  obtain ⟨a, rfl⟩ := h
  exact ⟨st.set k (.lst [.int a]), ⟨a, rfl⟩, by rw [List.set_append_left _ _ hk]⟩
theorem Up.app {k : Nat} {st s t : Sto} (h : Up k st s) (hk : k < st.length) : Up k (st ++ t) (s ++ t) := by
  obtain ⟨a, rfl⟩ := h
  exact ⟨a, by rw [List.set_append_left _ _ hk]⟩
theorem Dr.app {k : Nat} {st t : Sto} (h : Dr k st) : Dr k (st ++ t) := by
  obtain ⟨a, e⟩ := h
  exact ⟨a, by rw [List.getElem?_append_left (List.getElem?_eq_some_iff.mp e).1]; exact e⟩
theorem Up.get {k j : Nat} {st s : Sto} (h : Up k st s) (hj : j ≠ k) : s[j]? = st[j]? := by
  obtain ⟨a, rfl⟩ := h
  exact List.getElem?_set_ne (Ne.symm hj)
/-- only what is drawn from was changed -/
theorem gc_up {k : Nat} {st s t : Sto} {x : PV} (u : Up k st s) (h : low st.length x = true) : gc st x (s ++ t) = .ok x s := by
  have hl := u.len
  have e1 : (s ++ t).take st.length = s := by rw [← hl]; simp
  unfold gc
  simp only [gcV_low h, e1]
  rw [okOld_of st.length (Nat.le_of_eq hl) fun i a q => ?_]
  · simp [hl]
  · obtain ⟨b, rfl⟩ := u
    rw [List.getElem?_set] at q
    split at q
    · split at q
      · cases q; exact .inr rfl
      · cases q
    · exact .inl q
theorem gc_up0 {k : Nat} {st s : Sto} {x : PV} (u : Up k st s) (h : low st.length x = true) : gc st x s = .ok x s := by
  have := gc_up (t := []) u h
  rwa [List.append_nil] at this
end Sim
local macro_rules | `(tactic| simp_all_arith! [$ls,*]) => `(tactic| simp -implicitDefEqProofs only [$ls,*, Sim.Tgt.run, Sim.mVar, Sim.mC, Sim.mApp, Sim.mCons, Sim.mNil, Sim.mBin, Sim.mUn, Sim.mAnd_eq, Sim.mOr_eq, Sim.mNot_eq, Sim.mChain_eq, Sim.bVal_eq, Sim.bNot, Sim.bAnd, Sim.bOr, Sim.onB_bl, Sim.fnN, Sim.Res.bind_ok, Sim.Res.bind_exc, Sim.Res.bind_bad, List.map_cons, List.map_nil, List.length_cons, List.length_nil, List.replicate, List.cons_append, List.nil_append, List.append_nil, List.getElem?_cons_zero, List.getElem?_cons_succ, List.getElem?_nil, List.set_cons_zero, List.set_cons_succ, List.set_nil, Nat.add_zero, Nat.zero_add, Nat.reduceAdd, Nat.reduceSub, Nat.reduceEqDiff, if_true, if_false, Bool.false_eq_true, ↓reduceIte, Bool.not_true, Bool.not_false, Bool.not_not, Bool.true_and, Bool.false_and, Bool.and_true, Bool.and_false, Bool.true_or, Bool.false_or, Bool.or_true, Bool.or_false, Sim.mIter, Sim.sIter_tup, Sim.sIter_lst, Sim.is_int, Sim.is_bool, Sim.is_str, Sim.is_tuple, Sim.is_list, Sim.is_dict, Sim.sLe, Sim.sLt, Sim.sGt, Sim.sGe, Sim.sOrd, Sim.wR_bind, Sim.wR_ok, Sim.wO_seq, Sim.wO_nil, Sim.wO_break, Sim.wO_cont, Sim.wO_retN, Sim.wO_set1, Sim.wO_expr, Sim.wO_ret, Sim.wO_if, Sim.wO_for, Sim.wO_nx, Sim.wR_ite])
set_option Elab.async false
set_option linter.all false
set_option maxRecDepth 100000
set_option maxHeartbeats 4000000
/-! errors: raised, caught, kept, asked for their class -/
namespace Sim
open PySem PySem.Spec PyProof.Rows L2
variable [Tb] [Lm]
/-! ### raise, and defs that raise -/
def cRaise (n : String) : MS := fun _ st => .exc n [] st
/-- nothing is raised here -/
def cNox (b : MS) : MS := fun env st => match b env st with
  | .exc _ _ _ => .bad
  | r => r
def outX (st : Sto) : Out → Res PV
  | .rt x s => gc st x s
  | .nx _ s => gc st .non s
  | .exc n [] s => match gc st .non s with
    | .ok _ s' => .exc n [] s'
    | _ => .bad
  | _ => .bad
def defX (n : Nat) (b : MS) : MF := fun xs st => outX st (b (xs.map some ++ List.replicate (n - xs.length) none) st)
section
variable {X : Cx} {T : String → Value} {E : XK}
theorem s_raise {e : Expr} {n : String} {C : Addr} {pos : Pos} (hc : X.calm = true) (tk : L2.Takes X (fun cls d _ H => E cls d H)) (hT : T n = .ref C) (he : L2.PMk X e (fun _ H Q => Q (.ref C) none H)) : SX X T E (.Raise (some e) none pos) (cRaise n) :=
  ps_imp (L2.ps_raise hc tk he) fun D σ H ⟨g, st, env, so, en, h⟩ => h g H (.ref C) none (Ext.refl _ _) so ⟨hT.symm, rfl⟩
theorem s_nox {ss : List Stmt} {b : MS} (h : SXs X.nox T E0 ss b) : SXs X T E ss (cNox b) :=
  pss_imp (PSs.nox h) fun D σ H ⟨g, st, env, so, en, w⟩ => ⟨g, st, env, so, en, by
    unfold cNox at w
    cases q : b env st with
    | exc n fs s => rw [q] at w; exact w.elim
    | bad => rw [q] at w; exact w.elim
    | nx e s => rw [q] at w; exact w
    | rt e s => rw [q] at w; exact w
    | bk e s => rw [q] at w; exact w
    | ct e s => rw [q] at w; exact w⟩
/-- what is known of a def that may raise -/
structure DfX (P : Program) (w : World) (K : PySem.W.Frag) (mg : Str → Option Value) (base : Heap) (T : String → Value) (x : Str) (k : Nat) (ps : List Str) (F : MF) : Prop where
  ex : ∃ f fd, FnG P w K mg base (L2.CX P w) k f fd ps (spM T K ps.length F) ∧ mg x = some (.ref f) ∧ PySem.W.keepIn K (.ref f) = true ∧ Binds K fd ps []
variable {k j n : Nat} {ps : List Str} {F : MF} {x : Str} {p pos : Pos} {e : Expr} {es : List Expr} {ms : ML}
/-- called in a def that may raise -/
theorem y_callX (d : DfX X.prog X.w X.K X.mg X.base T x k ps F) (tk : L2.Takes X (fun cls d _ H => E cls d H)) (gd : Gd X.A) (hr : Room j X.A) (hj : k ≤ j) (hg : Gl X x) (ha : AX X T E (e :: es) ms) (hdb : (x == ("__debug__" : Str)) = false := by decide)
    (he : starEach (e :: es) X.env = (false, eval e X.env) :: starEach es X.env := by rfl) (hpl : (backTo pos (starEach es X.env)).any (·.1) = false := by rfl) (hn : ps.length = n := by rfl) : EX X T E (.Call (.Name x p) (e :: es) [] pos) (mApp (fnN n F) ms) := by
  subst hn
  obtain ⟨f, fd, h1, h2, h3, h4⟩ := d.ex
  exact pe_imp (pe_callG (E := E) h1 gd (hr.mono hj) hg h2 h3 h4 .nil (L2.passes_call tk fun _ _ _ _ h => h) ha hdb he hpl) fun σ H Q ⟨g, st, env, s, en, h⟩ => tl_of s en h fun g1 H1 st1 xs vs e1 s1 en1 r1 h1 => by
    simp only [fnN] at h1
    split at h1
    · rename_i hl
      rw [List.append_nil]
      exact ⟨by rw [← r1.length]; exact hl, g1, st1, xs, s1, r1, h1⟩
    · exact h1.elim
end
omit [Lm] in
/-- a raising def's mirror is the def -/
theorem y_defX {T : String → Value} {P : Program} {w : World} {K : PySem.W.Frag} {mg : Str → Option Value} {base : Heap} {k : Nat} {f : Addr} {x qual : Str} {st : Stmt} {fd : FuncData} {N ps : List Str} {b : MS} (F : Fun K x qual st f fd) (S : FnScope N ps (defScope st))
    (hbody : ∀ (cdv : Value) (A : Around) (outer : List PySem.Env) (s : Shared) (H : Hp) (E : XK), Gd (A.deeper (envOfC qual (defScope st) s.heap.objs.size f cdv)) → Room k (A.deeper (envOfC qual (defScope st) s.heap.objs.size f cdv)) →
      letI : Lm := lm0; SXs (cxOf (L2.CX P w) P w K mg base N qual (defScope st) f cdv A outer s H E) T E (defBody st) b) :
    FnG P w K mg base (L2.CX P w) (k + 1) f fd ps (spM T K ps.length (defX N.length b)) := by
  letI : Lm := lm0
  refine fnG_of F S (fun vs H Q E h => h.1) fun cdv A outer s H vs Q E gd hr h => ?_
  obtain ⟨hl, g, st', xs, so, l, h⟩ := h
  refine ⟨_, hbody cdv A outer s H E gd hr, g, st', _, so, env_start (N := N) l, ?_⟩
  unfold defX at h
  show okS T K E g H (b (xs.map some ++ List.replicate (N.length - xs.length) none) st') _
  cases q : b (xs.map some ++ List.replicate (N.length - xs.length) none) st' with
  | rt y s => rw [q] at h; exact fun g' H' v e s1 r => gc_ok so e s1 r h
  | nx e s => rw [q] at h; exact fun g' H' σ' e s1 _ => gc_ok so e s1 .non h
  | bk e s => rw [q] at h; exact h.elim
  | ct e s => rw [q] at h; exact h.elim
  | bad => rw [q] at h; exact h.elim
  | exc n fs s =>
    rw [q] at h
    cases fs with
    | cons a fs => exact h.elim
    | nil =>
      intro g' H' c d e s1 re
      have h2 : okR T K (rV K) g H (gc st' .non s) (fun _ H2 => E c d H2) E := by
        simp only [outX] at h
        cases q2 : gc st' .non s with
        | bad => rw [q2] at h; exact h.elim
        | exc n2 fs2 s2 => rw [q2] at h; exact h.elim
        | ok y s2 => rw [q2] at h; exact fun g2 H2 v e2 so2 _ => h g2 H2 c d e2 so2 re
      exact gc_ok so e s1 .non h2
end Sim
set_option Elab.async false
set_option linter.all false
set_option maxRecDepth 100000
set_option maxHeartbeats 4000000
namespace Sim
open PySem PySem.Spec PyProof.Rows L2
/-! ### an error that is caught and kept -/
end Sim
set_option Elab.async false
set_option linter.all false
set_option maxRecDepth 100000
set_option maxHeartbeats 4000000
namespace Sim
open PySem PySem.Spec PyProof.Rows L2
variable [Tb] [Lm]
/-! ### try: one call; except C as n: kept = n -/
def mAppO (f : SeN) (ms : ML) : M := fun env st => (ms env st).only.bind fun xs s1 => f xs s1
/-! ### isinstance of an error -/
end Sim
namespace Sim
open PySem PySem.Spec PyProof.Rows L2
variable [Tb] [Lm]
/-! ### more bodies -/
/-- what is known of an own class of errors -/
structure ErC (K : PySem.W.Frag) (mg : Str → Option Value) (n : String) (C : Addr) : Prop where
  g : mg (Str.ofString n) = some (.ref C)
  ck : clsK K n = .ref C
  x : PySem.W.excIn K C [.type "ValueError", .type "Exception", .type "BaseException", .type "object"] "ValueError.__new__" = true
  k : PySem.W.keepIn K (.ref C) = true
  b : PySem.W.subIn K (.ref C) (.type "BaseException") = some true
  t : PySem.W.typeIn K (.ref C) = some (.type "type")
theorem erC {K : PySem.W.Frag} {h : Heap} {mg : Str → Option Value} {n : String} {C : Addr} (X : K.In h) (G : h.Ns mainGlobals mg) (a : PySem.W.nsIn K mainGlobals (Str.ofString n) = some (some (.ref C)))
    (x : PySem.W.excIn K C [.type "ValueError", .type "Exception", .type "BaseException", .type "object"] "ValueError.__new__" = true) (k : PySem.W.keepIn K (.ref C) = true) (b : PySem.W.subIn K (.ref C) (.type "BaseException") = some true) (t : PySem.W.typeIn K (.ref C) = some (.type "type")) : ErC K mg n C :=
  ⟨PySem.W.mg_of X G a, by simp only [clsK, a], x, k, b, t⟩
theorem law_endX {l : PySem.W.OpenLaw} {n k : Nat} {q : Program} {loose : List Str} {XP : (Str → Option Value) → Heap → Prop} {YP : World → Heap → Prop} {d : DefRec} {K : Params → PySem.W.Frag} {x : Str} {F : MF}
    (hn : l.most = some n) (hn2 : n ≤ sizeLine) (hdf : d.params.defaults = []) (hr : Room k callerA) (hY : ∀ (w : World) (h : Heap), YP w h → (K w.params).In h)
    (hF : ∀ (w : World) (mg : Str → Option Value) (fa : Addr) (h : Heap), (K w.params).In h → h.Ns mainGlobals mg → mg d.name = some (.ref fa) →
      ∃ fd : FuncData, (∀ (s : Shared) (u : Value), BindsTo s fd ⟨[u], []⟩ [(x, u)]) ∧ ∀ base : Heap, (K w.params).In base → base.Ns mainGlobals mg → FnG l.prog w (K w.params) mg base CX0 k fa fd [x] (@spM (tb0 w) (clsK (K w.params)) (K w.params) 1 F))
    (good : ∀ ns : List Int, ns.length ≤ n → ∃ st, F [scriptP ns] [] = .ok (.bl true) st) : PySem.W.WalkO q loose XP YP l.row.toRowW d [] (fun f vs => PySem.call f vs) :=
  law_end (T := fun w => clsK (K w.params)) hn hn2 hdf hr hY hF good
/-! isinstance, by what is known of classes -/
end Sim
set_option Elab.async false
set_option linter.all false
set_option maxRecDepth 100000
set_option maxHeartbeats 4000000
/-! a lambda that is handed to a def: made, called there -/
namespace Sim
open PySem PySem.Spec PyProof.Rows L2
variable [Tb] [Lm]
/-! ### a table grows -/
structure Grow (P : Addr) (H H1 : Hp) : Prop where
  was : ∃ ps, H P = some (.tbl ps)
  same : ∀ b o, H b = some o → b ≠ P → H1 b = some o
theorem Grow.at_ {P : Addr} {H H1 : Hp} (w : Grow P H H1) {b : Addr} {o : HO} (e : H b = some o) (n : ∀ ps, o ≠ .tbl ps) : H1 b = some o := by
  refine w.same b o e fun z => ?_
  obtain ⟨ps, q⟩ := w.was
  rw [z, q] at e
  cases e
  exact n ps rfl
theorem Grow.nt {P : Addr} {H H1 : Hp} (w : Grow P H H1) {a : Addr} (h : nt H a) : H1 a = H a := by
  obtain ⟨o, e, n⟩ := h
  rw [w.at_ e n, e]
theorem tupO_nt {u : HO} (t : TupO u) : ∀ ps, u ≠ .tbl ps := fun ps e => by subst e; cases t
section
variable {K : PySem.W.Frag} {g : G} {H H1 : Hp} {st : Sto} {P : Addr} {q : Str}
theorem Grow.ext (w : Grow P H H1) (s : StOk K g H st) : Ext g H g H1 :=
  ⟨⟨Nat.le_refl _, fun _ _ => rfl, fun a h => ⟨h, w.nt (s.fz a h)⟩, fun a u t h => w.at_ h (tupO_nt t)⟩, fun a h => ⟨h, w.nt (s.pr a h).1⟩⟩
theorem codeO_nt {c : Addr} {q : Str} : ∀ ps, LamX.CodeO c q ≠ .tbl ps := fun ps z => by unfold LamX.CodeO at z; cases z
theorem Grow.keep (w : Grow P H H1) (s : StOk K g H st) (hu : ∀ p ∈ Tb.tabs, p.1 = P → p.2 = q) (t : LamX.TabS H1 P q) : StOk K g H1 st := by
  refine ⟨s.len, s.inj, s.sep, fun a h => (s.fz a h).of (w.nt (s.fz a h)), fun a h => ⟨(s.pr a h).1.of (w.nt (s.pr a h).1), (s.pr a h).2⟩, fun i m e => (s.at_ i m e).keep (w.ext s) (w.nt (s.at_ i m e).nt), fun p hp => ?_⟩
  by_cases e : p.1 = P
  · rw [hu p hp e, e]; exact t
  · obtain ⟨ps, h1, h2, h3⟩ := s.tb p hp
    refine ⟨ps, w.same _ _ h1 e, h2, fun pos cv hc => ?_⟩
    obtain ⟨c, e1, e2⟩ := h3 pos cv hc
    exact ⟨c, e1, w.at_ e2 codeO_nt⟩
end
/-! ### a code object stays among the others -/
/-! ### the making -/
section
variable {X : Cx} {pins : List (Addr × Obj)} {σ : L2.St} {H : Hp} {s : Shared}
/-- what is known of a lambda's function at f -/
structure LamO (f : Addr) (F : NdefX.NF) (be : Expr) (h : Heap) : Prop where
  ex : ∃ pm ctv sl, h.get? f = some { PySem.W.kla_obj "<lambda>" F.qual F.params be F.scope F.cl pm F.c ctv with slots := sl }
theorem LamO.any {f : Addr} {F : NdefX.NF} {be : Expr} {h h1 : Heap} {fs ex : List Addr} {H H1 : Hp} (o : LamO f F be h) (u : Un fs ex H H1 h h1) (n : H f = none) (x : f ∉ ex) : LamO f F be h1 := by
  obtain ⟨pm, ctv, sl, e⟩ := o.ex
  obtain ⟨sl2, e2⟩ := u.any e n x
  exact ⟨pm, ctv, sl2, e2⟩
end
end Sim
set_option Elab.async false
set_option linter.all false
set_option maxRecDepth 100000
set_option maxHeartbeats 4000000
/-! a lambda called by the def that it was handed to -/
namespace Sim
open PySem PySem.Spec PyProof.Rows L2
/-! ### what stays as it is in every store -/
/-! ### a lambda that lies ready -/
/-! ### called by its name -/
end Sim
set_option Elab.async false
set_option linter.all false
set_option maxRecDepth 100000
set_option maxHeartbeats 4000000
/-! a def that is handed a lambda: its promise, its call -/
namespace Sim
open PySem PySem.Spec PyProof.Rows L2
/-! ### a def that makes lambdas: its code object is c -/
/-! ### the call, with a lambda written there -/
end Sim
set_option Elab.async false
set_option linter.all false
set_option maxRecDepth 100000
set_option maxHeartbeats 4000000
/-! the law's end, where defs make lambdas -/
namespace Sim
open PySem PySem.Spec PyProof.Rows L2
end Sim
set_option Elab.async false
set_option linter.all false
set_option maxRecDepth 100000
set_option maxHeartbeats 4000000
/-! dicts of the store; lists of a dict's keys; extend -/
namespace Sim
open PySem PySem.Spec PyProof.Rows L2
variable [Tb] [Lm]
section
variable {T : String → Value} {K : PySem.W.Frag} {E : XK} {g : G} {H : Hp} {st : Sto} {Q : VK}
theorem RVK.length : ∀ {xs : List (Key × PV)} {ws : List (Key × V)}, RVK K g H xs ws → xs.length = ws.length
  | _, _, .nil => rfl
  | _, _, .cons _ l => by simp [l.length]
def kP : Key → PV
  | .inl i => .int i
  | .inr x => .str x
end
def fitN (n : Nat) : Bool := decide (n < 1000000)
/-- d[k] = v -/
def sPutD (o i v : PV) (st : Sto) : Res Unit := match o with
  | .ref k => match st[k]? with
    | some (.dct kvs) => match toKey i with
      | some q => if fitN kvs.length = true then .ok () (st.set k (.dct (putP kvs q v))) else .bad
      | none => match kvs, toTK i with
        | [], some q => .ok () (st.set k (.dd [(q, v)]))
        | _, _ => .bad
    | some (.dd kvs) => match toTK i with
      | some q => if fitN kvs.length = true then .ok () (st.set k (.dd (putN kvs q v))) else .bad
      | none => .bad
    | _ => .bad
  | _ => .bad
def cPutD (o i v : M) : MS := fun env st => match (v env st).bind fun x s1 => (o env s1).bind fun y s2 => (i env s2).bind fun z s3 => sPutD y z x s3 with
  | .ok _ s => .nx env s
  | .exc n fs s => .exc n fs s
  | .bad => .bad
/-! lists of a dict's keys -/
section
variable {T : String → Value} {K : PySem.W.Frag} {E : XK}
theorem CallR.or {X : Cx} {f : Value} {r r' : List V → Hp → VK → Prop} (h : CallR X f r) (h' : CallR X f r') : CallR X f (fun xs H Q => r xs H Q ∨ r' xs H Q) := by
  intro pins s σ H xs us Q I rs q
  rcases q with q | q
  · exact h pins s σ H xs us Q I rs q
  · exact h' pins s σ H xs us Q I rs q
end
end Sim
set_option Elab.async false
set_option linter.all false
set_option maxRecDepth 100000
set_option maxHeartbeats 4000000
/-! comprehensions whose list stays in the store; truth of lists -/
namespace Sim
open PySem PySem.Spec PyProof.Rows L2
variable [Tb] [Lm]
def mLcX (fin : List PV → Sto → Res PV) (it : iL) (t : Tgt) (c : MB) (m : M) (vs : List Nat) : M := fun env st => (it env st).bind fun xs s1 => if fitL xs then (lcGo t c m (wipeL env vs) xs s1).bind fun ys s2 => fin ys s2 else .bad
/-- what is made of the list at the end -/
def FinOk (T : String → Value) (K : PySem.W.Frag) (E : XK) (fin : List PV → Sto → Res PV) : Prop :=
  ∀ (g1 : G) (H1 : Hp) (D : Addr) (s1 : Sto), StOk K g1 H1 s1 → H1 D = none → ∀ (g : G) (H : Hp) (st : Sto) (acc : List PV) (ws : List V) (Q : VK), Ext g1 H1 g H → StOk K g H st → H D = some (.lst ws) → RVL K g H acc ws → ¬ g.F D → (∀ i, i < g.n → g.f i ≠ D) →
    okR T K (rV K) g1 H1 (fin acc st) Q E → Q (.ref D) H
section
variable {T : String → Value} {K : PySem.W.Frag} {E : XK}
theorem lc_coreX {fin : List PV → Sto → Res PV} (hfin : FinOk T K E fin) {wi : TI} {mi : iL} {t : Tgt} {c : MB} {m : M} {vs : List Nat} {te : TE} {tt : TT} (hte : te = TV T K (fun _ _ _ => False) m) (htt : tt = TB T K (fun _ _ _ => False) c) (hwi : wi = TI' T K E mi) (hsl : ∀ i ∈ t.slots, i ∈ vs) (hlm : ∀ v ∈ vs, Lm.at_ v = none) {σ : L2.St} {H : Hp} {Q : VK} (h : TV T K E (mLcX fin mi t c m vs) σ H Q) : tLc wi (tgR K t) tt te vs σ H Q := by
  subst hte htt hwi
  obtain ⟨g, st, env, s, en, h⟩ := h
  refine ⟨g, st, env, s, en, h.step.imp fun J H1 ⟨g1, s1, xs, e1, so1, wk, h1⟩ => ?_⟩
  have en1 := en.mono e1
  intro D hD
  split at h1
  · rename_i hf
    have hlen : xs.length ≤ sizeLine := fitL_ok hf
    have start : ∀ (g : G) (H : Hp) (st : Sto) (acc : List PV) (ws : List V), Ext g1 H1 g H → StOk K g H st → H D = some (.lst ws) → RVL K g H acc ws → ¬ g.F D → (∀ i, i < g.n → g.f i ≠ D) →
        okR T K (rV K) g1 H1 (fin acc st) Q E → Q (.ref D) H := fun g H st acc ws e s hd l nf ni q => hfin g1 H1 D s1 so1 hD g H st acc ws Q e s hd l nf ni q
    refine ⟨fun i n H => i + n = xs.length ∧ ∃ g st acc ws, Ext g1 H1 g H ∧ StOk K g H st ∧ H D = some (.lst ws) ∧ RVL K g H acc ws ∧ ¬ g.F D ∧ (∀ i, i < g.n → g.f i ≠ D) ∧ acc.length ≤ i ∧
      okR T K (rV K) g1 H1 ((lcGo t c m (wipeL env vs) (xs.drop i) st).bind fun ys s2 => fin (acc ++ ys) s2) Q E, ⟨xs.length, by omega, g1, s1, [], [], ext_new so1 hD, st_new so1 hD, upd_same, .nil, fun z => (so1.fz D z).ne hD, fun i hi z => ?_, Nat.zero_le _, by simpa using h1⟩, ?_⟩
    · have hi' : i < s1.length := by rw [← so1.len]; exact hi
      exact (so1.at_ i s1[i] (List.getElem?_eq_getElem hi')).there (z ▸ hD)
    · rintro i n H ⟨hn, g, st, acc, ws, e, s, hd, l, nf, ni, hacc, h⟩
      obtain ⟨w1, w2⟩ := wk g H st e s i
      by_cases hlt : i < xs.length
      · have hx : xs[i]? = some xs[i] := List.getElem?_eq_getElem hlt
        have hdr : xs.drop i = xs[i] :: xs.drop (i + 1) := List.drop_eq_getElem_cons hlt
        rw [hdr] at h
        obtain ⟨go, _⟩ := w2 _ hx
        refine .inr ⟨go, fun H' => ∃ g st acc ws, Ext g1 H1 g H' ∧ StOk K g H' st ∧ H' D = some (.lst ws) ∧ RVL K g H' acc ws ∧ ¬ g.F D ∧ (∀ i, i < g.n → g.f i ≠ D) ∧ acc.length ≤ i + 1 ∧
          okR T K (rV K) g1 H1 ((lcGo t c m (wipeL env vs) (xs.drop (i + 1)) st).bind fun ys s2 => fin (acc ++ ys) s2) Q E, fun H' w => ⟨n - 1, by omega, by omega, w⟩, fun v H' y => ?_⟩
        -- the guard
        have sg : StOk K (g.grd D) H st := st_grd s ⟨_, hd, nofun⟩ nf ni
        have eg : Ext g1 H1 (g.grd D) H := e.trans ext_grd
        obtain ⟨_, w4⟩ := wk (g.grd D) H st eg sg i
        obtain ⟨e3, s3, r3⟩ := (w4 _ hx).2 v H' y
        have gD3 : (g.grd D).P D := .inr rfl
        simp only [lcGo] at h
        cases q2 : t.run xs[i] (wipeL env vs) with
        | none => rw [q2] at h; exact h.elim
        | some env1 =>
          rw [q2] at h
          dsimp only at h
          refine tg_ok ((en1.mono (eg.trans e3)).wipe vs hlm) r3 q2 fun σ2 en4 wp => ⟨?_, g.grd D, st, env1, s3, en4, ?_⟩
          · rw [wp vs hsl]
            have : ∀ us : List Nat, (∀ u ∈ us, u ∈ vs) → wipe (wipe σ vs) us = wipe σ vs := by
              intro us
              induction us with
              | nil => intro _; rfl
              | cons u us ih =>
                intro hu
                show (wipe (wipe σ vs) us).set u none = _
                rw [ih fun w hw => hu w (List.mem_cons_of_mem _ hw)]
                have idm : ∀ (ws : List Nat), u ∈ ws → (wipe σ ws).set u none = wipe σ ws := by
                  intro ws
                  induction ws with
                  | nil => intro z; cases z
                  | cons a ws ih2 =>
                    intro z
                    show ((wipe σ ws).set a none).set u none = (wipe σ ws).set a none
                    by_cases ea : a = u
                    · subst ea; rw [List.set_set]
                    · rw [List.set_comm _ _ ea, ih2 ((List.mem_cons.mp z).resolve_left fun q => ea q.symm)]
                exact idm vs (hu u List.mem_cons_self)
            exact this vs fun _ hu => hu
          · have hA : okR T K (rV K) g1 H1 ((c env1 st).only.bind fun b s1 => (if b = true then (m env1 s1).only.bind fun y s2 => (lcGo t c m (wipeL env vs) (xs.drop (i + 1)) s2).bind fun ys s3 => .ok (y :: ys) s3 else lcGo t c m (wipeL env vs) (xs.drop (i + 1)) s1).bind fun ys s2 => fin (acc ++ ys) s2) Q E := by
              cases qc : c env1 st with
              | ok b s1 => rw [qc] at h; exact h
              | exc n fs s1 => rw [qc] at h; exact h
              | bad => rw [qc] at h; exact h
            have ge3 : Ext g1 H1 (g.grd D) H' := eg.trans e3
            refine (hA.stepB (R' := rB) ge3).imp fun b H4 ⟨g4, st4, b', e4, s4, eb, h4⟩ => ?_
            subst eb
            have gD4 : g4.P D := (e4.P D gD3).1
            have hD4 : H4 D = some (.lst ws) := by rw [(e4.P D gD3).2, (e3.P D gD3).2]; exact hd
            have l4 : RVL K g4 H4 acc ws := (l.mono (ext_grd.trans e3)).mono e4
            cases b' with
            | false =>
              rw [if_neg Bool.false_ne_true] at h4 ⊢
              have e5 := ext_back (o := .lst ws) so1 (ge3.trans e4) s4 hD gD4 hD4
              have s5 := st_un (o := .lst ws) s4 gD4 hD4
              have x5 := ext_un (o := .lst ws) s4 gD4 hD4
              rw [upd_id hD4] at e5 s5 x5
              exact ⟨g4.ungrd D, st4, acc, ws, e5, s5, hD4, l4.monoW x5, (s4.pr D gD4).2.1, (s4.pr D gD4).2.2, by omega, h4⟩
            | true =>
              rw [if_pos rfl] at h4 ⊢
              refine ⟨g4, st4, env1, s4, en4.mono e4, ?_⟩
              have hB : okR T K (rV K) g1 H1 ((m env1 st4).only.bind fun y s2 => (lcGo t c m (wipeL env vs) (xs.drop (i + 1)) s2).bind fun ys s3 => fin (acc ++ (y :: ys)) s3) Q E := by
                cases qm : m env1 st4 with
                | ok y s2 =>
                  rw [qm] at h4
                  simp only [Res.only, Res.bind_ok] at h4 ⊢
                  cases ql : lcGo t c m (wipeL env vs) (xs.drop (i + 1)) s2 with
                  | ok ys s3 => rw [ql] at h4; exact h4
                  | exc n fs s3 => rw [ql] at h4; exact h4
                  | bad => rw [ql] at h4; exact h4
                | exc n fs s1 => rw [qm] at h4; exact h4
                | bad => rw [qm] at h4; exact h4
              refine (hB.stepB (R' := rV K) (ge3.trans e4)).imp fun y H5 ⟨g5, st5, yy, e5, s5, ry, h5⟩ => ?_
              have gD5 : g5.P D := (e5.P D gD4).1
              have hD5 : H5 D = some (.lst ws) := by rw [(e5.P D gD4).2]; exact hD4
              have x6 := ext_un (o := .lst (ws ++ [y])) s5 gD5 hD5
              refine ⟨ws, hD5, ?_, g5.ungrd D, st5, acc ++ [yy], ws ++ [y], ext_back so1 ((ge3.trans e4).trans e5) s5 hD gD5 hD5, st_un s5 gD5 hD5, upd_same, ?_, (s5.pr D gD5).2.1, (s5.pr D gD5).2.2, by simp; omega, ?_⟩
              · rw [← l.length]; omega
              · exact ((l4.mono e5).append (.cons ry .nil)).monoW x6
              · simpa using h5
      · have hdr : xs.drop i = [] := List.drop_eq_nil_of_le (by omega)
        rw [hdr] at h
        refine .inl ⟨w1 (by omega), start g H st acc ws e s hd l nf ni ?_⟩
        simpa [lcGo] using h
  · exact h1.elim
end
/-! ### truth -/
end Sim
set_option Elab.async false
set_option linter.all false
namespace Sim
open PySem PySem.Spec PyProof.Rows L2
end Sim
set_option Elab.async false
set_option linter.all false
set_option maxRecDepth 100000
set_option maxHeartbeats 4000000
/-! methods of lists and texts, list(range(..)), comprehensions of two clauses -/
namespace Sim
open PySem PySem.Spec PyProof.Rows L2
variable [Tb] [Lm]
/-! x.extend(y): a list of the store, a list that is done -/
def sExt (x y : PV) (st : Sto) : Res PV := match x, y with
  | .ref k, .lst ys => match st[k]? with
    | some (.lst xs) => if decide (xs.length + ys.length ≤ 16777216) then .ok .non (st.set k (.lst (xs ++ ys))) else .bad
    | _ => .bad
  | _, _ => .bad
def mExtend (a b : M) : M := fun env st => (a env st).bind fun x s1 => if isLst x s1 = true then (b env s1).bind fun y s2 => sExt x y s2 else .bad
section
variable {X : Cx} {T : String → Value} {E : XK} {o e : Expr} {m m' : M} {apos pos : Pos}
theorem x_extend (ho : EX X T E o m) (ha : EX X T E e m') (na : starEach (e :: []) X.env = (false, eval e X.env) :: starEach [] X.env := by rfl)
    (hp : ∀ {to : TE} {t : TA}, PE X o to → PA X [e] t → PE X (.Call (.Attribute o "extend" apos) [e] [] pos) (tBM X.K "list" rExtend to t)) : EX X T E (.Call (.Attribute o "extend" apos) [e] [] pos) (mExtend m m') :=
  pe_imp (hp ho (x_cons ha x_nil na)) fun σ H Q ⟨g, st, env, s, en, h⟩ => recv (E' := E) s en h fun g H st x y v u s r1 r2 h => by
    unfold sExt at h
    split at h
    · split at h
      · rename_i k ys xs q
        split at h
        · rename_i hf
          obtain ⟨rfl, vs, hH, l⟩ := ref_of s q r1
          cases r2 with
          | lst f hb l2 =>
            rename_i b ws
            have xe := ext_write (o := .lst (vs ++ ws)) s q rfl
            refine ⟨_, b, vs, ws, rfl, rfl, hH, hb, by rw [← l.length, ← l2.length, sizeLine_eq]; exact of_decide_eq_true hf, ?_⟩
            exact okR.finE h xe (st_write s q rfl ⟨_, upd_same, (l.append l2).mono xe⟩) .non
        · exact h.elim
      · exact h.elim
    · exact h.elim
end
/-! x.index(y), x.count(True): lists of one kind -/
/-! d.get(k, v) -/
end Sim
set_option Elab.async false
set_option linter.all false
set_option maxRecDepth 100000
set_option maxHeartbeats 4000000
/-! comprehensions of two clauses, the second one over a range -/
namespace Sim
open PySem PySem.Spec PyProof.Rows L2
variable [Tb] [Lm]
def finF (ys : List PV) (s : Sto) : Res PV := .ok (.lst ys) s
section
variable {T : String → Value} {K : PySem.W.Frag} {E : XK}
theorem finF_ok : FinOk T K E finF := by
  intro g1 H1 D s1 so1 hD g H st acc ws Q e s hd l nf ni q
  have q : okR T K (rV K) g1 H1 (.ok (.lst acc) st) Q E := q
  have x : Ext g H (g.frz D) H := ⟨⟨Nat.le_refl _, fun _ _ => rfl, fun a h => ⟨.inl h, rfl⟩, fun _ _ _ h => h⟩, fun a h => ⟨h, rfl⟩⟩
  by_cases hp : g.P D
  · have e2 := ext_back (o := .lst ws) so1 e s hD hp hd
    have s2 := st_un (o := .lst ws) s hp hd
    have x2 := ext_un (o := .lst ws) s hp hd
    rw [upd_id hd] at e2 s2 x2
    have x3 : Ext (g.ungrd D) H ((g.ungrd D).frz D) H := ⟨⟨Nat.le_refl _, fun _ _ => rfl, fun a h => ⟨.inl h, rfl⟩, fun _ _ _ h => h⟩, fun a h => ⟨h, rfl⟩⟩
    refine okR.finE q (e2.trans x3) ⟨s2.len, s2.inj, fun i m e al h => h.elim (s2.sep i m e al) (fun z => ni i (s2.lt e) z), fun a h => h.elim (s2.fz a) fun z => by subst z; exact ⟨_, hd, nofun⟩, fun a h => ⟨(s2.pr a h).1, fun z => z.elim (s2.pr a h).2.1 h.2, (s2.pr a h).2.2⟩, fun i m e => (s2.at_ i m e).keep x3 rfl, s2.tb⟩ (.lst (.inr rfl) hd ((l.monoW x2).mono x3))
  · refine okR.finE q (e.trans x) ⟨s.len, s.inj, fun i m e al h => h.elim (s.sep i m e al) (fun z => ni i (s.lt e) z), fun a h => h.elim (s.fz a) fun z => by subst z; exact ⟨_, hd, nofun⟩, fun a h => ⟨(s.pr a h).1, fun z => z.elim (s.pr a h).2.1 fun z => hp (z ▸ h), (s.pr a h).2.2⟩, fun i m e => (s.at_ i m e).keep x rfl, s.tb⟩ (.lst (.inr rfl) hd (l.mono x))
/-- while the list grows -/
structure Gr (K : PySem.W.Frag) (g1 : G) (H1 : Hp) (D : Addr) (g : G) (H : Hp) (st : Sto) (acc : List PV) (ws : List V) : Prop where
  e : Ext g1 H1 g H
  s : StOk K g H st
  d : H D = some (.lst ws)
  l : RVL K g H acc ws
  nf : ¬ g.F D
  ni : ∀ i, i < g.n → g.f i ≠ D
theorem Gr.grd {g1 g : G} {H1 H : Hp} {D : Addr} {st : Sto} {acc : List PV} {ws : List V} (r : Gr K g1 H1 D g H st acc ws) : StOk K (g.grd D) H st := st_grd r.s ⟨_, r.d, nofun⟩ r.nf r.ni
/-- one more -/
theorem Gr.more {g1 g g' : G} {H1 H H' : Hp} {D : Addr} {st st' s1 : Sto} {acc : List PV} {ws : List V} {yy : PV} {y : V} (r : Gr K g1 H1 D g H st acc ws) (so1 : StOk K g1 H1 s1) (hD : H1 D = none) (e : Ext (g.grd D) H g' H') (s : StOk K g' H' st') (ry : RV K g' H' yy y) :
    H' D = some (.lst ws) ∧ Gr K g1 H1 D (g'.ungrd D) (upd H' D (.lst (ws ++ [y]))) st' (acc ++ [yy]) (ws ++ [y]) := by
  have gD : g'.P D := (e.P D (.inr rfl)).1
  have hd : H' D = some (.lst ws) := by rw [(e.P D (.inr rfl)).2]; exact r.d
  have x6 := ext_un (o := .lst (ws ++ [y])) s gD hd
  exact ⟨hd, ext_back so1 ((r.e.trans ext_grd).trans e) s hD gD hd, st_un s gD hd, upd_same, (((r.l.mono ext_grd).mono e).append (.cons ry .nil)).monoW x6, (s.pr D gD).2.1, (s.pr D gD).2.2⟩
end
end Sim
set_option Elab.async false
set_option linter.all false
set_option maxRecDepth 100000
set_option maxHeartbeats 1000000
namespace Sim
open PySem PySem.Spec PyProof.Rows L2
/-! ### min of a list of whole numbers -/
end Sim
set_option Elab.async false
set_option linter.all false
set_option maxRecDepth 100000
set_option maxHeartbeats 4000000
/-! comprehensions of dicts, by any way of putting an entry; keys that are tuples -/
namespace Sim
open PySem PySem.Spec PyProof.Rows L2
variable [Tb] [Lm]
/-! ### keys that are tuples -/
section
variable {T : String → Value} {K : PySem.W.Frag} {E E' : XK}
section
variable {g g1 : G} {H H1 : Hp} {D : Addr} {o : HO} {st st1 : Sto}
/-- the dict under way -/
def DcAt (K : PySem.W.Frag) (g : G) (H : Hp) (D : Addr) (acc : List (NestedKey × PV)) (es : List (NestedKey × Addr × V)) : Prop := RVD K g H acc es ∧ ((H D = some (DDO es D) ∧ acc ≠ []) ∨ (H D = some (.dK []) ∧ acc = []))
theorem DcAt.at_ {acc : List (NestedKey × PV)} {es : List (NestedKey × Addr × V)} (d : DcAt K g H D acc es) : DAt K H D es := by
  obtain ⟨l, ⟨h, _⟩ | ⟨h, rfl⟩⟩ := d
  · exact .inl ⟨h, keysAt_of l⟩
  · cases l; exact .inr ⟨h, rfl⟩
theorem DcAt.nt {acc : List (NestedKey × PV)} {es : List (NestedKey × Addr × V)} (d : DcAt K g H D acc es) : Sim.nt H D := by
  obtain ⟨l, ⟨h, _⟩ | ⟨h, rfl⟩⟩ := d
  · exact ⟨_, h, nofun⟩
  · exact ⟨_, h, nofun⟩
end
theorem wipe_mem {u : Nat} : ∀ (vs : List Nat) (σ : L2.St), u ∈ vs → (wipe σ vs).set u none = wipe σ vs
  | a :: vs, σ, z => by
    show ((wipe σ vs).set a none).set u none = (wipe σ vs).set a none
    by_cases ea : a = u
    · subst ea; rw [List.set_set]
    · rw [List.set_comm _ _ ea, wipe_mem vs σ ((List.mem_cons.mp z).resolve_left fun q => ea q.symm)]
theorem wipe_twice (vs : List Nat) (σ : L2.St) : wipe (wipe σ vs) vs = wipe σ vs := by
  have : ∀ us : List Nat, (∀ u ∈ us, u ∈ vs) → wipe (wipe σ vs) us = wipe σ vs := by
    intro us
    induction us with
    | nil => intro _; rfl
    | cons u us ih =>
      intro hu
      show (wipe (wipe σ vs) us).set u none = _
      rw [ih fun w hw => hu w (List.mem_cons_of_mem _ hw)]
      exact wipe_mem vs σ (hu u List.mem_cons_self)
  exact this vs fun _ hu => hu
end
end Sim
set_option Elab.async false
set_option linter.all false
set_option maxRecDepth 100000
set_option maxHeartbeats 4000000
/-! zip of three lists; len of a dict -/
namespace Sim
open PySem PySem.Spec PyProof.Rows L2
/-! ### in the mirror -/
/-! ### len of a dict -/
end Sim
set_option Elab.async false
set_option linter.all false
set_option maxRecDepth 100000
set_option maxHeartbeats 4000000
/-! a walk over a dict whose keys are tuples: the dict is locked while the loop runs -/
namespace Sim
open PySem PySem.Spec PyProof.Rows L2
variable [Tb] [Lm]
/-! ### locking -/
/-! ### the walk -/
theorem RVD.get {K : PySem.W.Frag} {g : G} {H : Hp} : ∀ {kvs : List (NestedKey × PV)} {es : List (NestedKey × Addr × V)} {i : Nat} {x : PV}, RVD K g H kvs es → (kvs.map fun kv => nkP kv.1)[i]? = some x → ∃ p, es[i]? = some p ∧ RV K g H x (.ref p.2.1)
  | _, _, _, _, .nil, e => by simp at e
  | _, _, 0, _, .cons k _ _ _, e => by simp at e; subst e; exact ⟨_, rfl, k⟩
  | _, _, i + 1, x, .cons _ _ _ l, e => by simpa using RVD.get (i := i) (x := x) l (by simpa using e)
/-! ### the statement -/
end Sim
set_option Elab.async false
set_option linter.all false
set_option maxRecDepth 100000
set_option maxHeartbeats 4000000
/-! walks over a list of the store that the turns leave alone -/
namespace Sim
open PySem PySem.Spec PyProof.Rows L2
variable [Tb] [Lm]
/-- what is walked as long as I is true of the store -/
def WalksW (K : PySem.W.Frag) (J : It) (xs : List PV) (g0 : G) (H0 : Hp) (I : Sto → Bool) : Prop := ∀ g H st, Ext g0 H0 g H → StOk K g H st → I st = true → ∀ i,
  (xs.length ≤ i → J.stop i H) ∧ ∀ x, xs[i]? = some x → J.go i H ∧ ∀ v H', J.yld i H v H' → Ext g H g H' ∧ StOk K g H' st ∧ RV K g H' x v
def isAt (k : Nat) (xs : List PV) (st : Sto) : Bool := match st[k]? with
  | some (.lst ys) => PV.eqbs ys xs
  | _ => false
theorem isAt_ok {k : Nat} {xs : List PV} {st : Sto} (h : isAt k xs st = true) : st[k]? = some (.lst xs) := by
  unfold isAt at h
  split at h
  · rename_i ys e
    rw [e, PV.eqbs_ok h]
  · cases h
theorem isAt_of {k : Nat} {xs : List PV} {st : Sto} (h : st[k]? = some (.lst xs)) : isAt k xs st = true := by
  unfold isAt
  rw [h]
  exact PV.eqbs_refl xs
def lcGoW (I : Sto → Bool) (t : Tgt) (c : MB) (m : M) (env0 : Lo) : List PV → Sto → Res (List PV)
  | [], st => if I st = true then .ok [] st else .bad
  | x :: xs, st => if I st = true then (match t.run x env0 with
    | none => .bad
    | some env1 => (c env1 st).only.bind fun b s1 => if b = true then (m env1 s1).only.bind fun y s2 => (lcGoW I t c m env0 xs s2).bind fun ys s3 => .ok (y :: ys) s3 else lcGoW I t c m env0 xs s1) else .bad
def mLcW (fin : List PV → Sto → Res PV) (i : Nat) (t : Tgt) (c : MB) (m : M) (vs : List Nat) : M := fun env st => match env[i]? with
  | some (some (.ref k)) => match st[k]? with
    | some (.lst xs) => if fitL xs then (lcGoW (isAt k xs) t c m (wipeL env vs) xs st).bind fun ys s2 => fin ys s2 else .bad
    | _ => .bad
  | _ => mLcX fin (mIter (mVar i)) t c m vs env st
section
variable {T : String → Value} {K : PySem.W.Frag} {E : XK}
theorem walks_Lst {g : G} {H : Hp} {st : Sto} (s : StOk K g H st) {k : Nat} {xs : List PV} (e : st[k]? = some (.lst xs)) : WalksW K (Itl K (g.f k)) xs g H (isAt k xs) := by
  intro g1 H1 st1 e1 s1 hi i
  have hk := s.lt e
  have e2 := isAt_ok hi
  obtain ⟨vs, h1, l1⟩ := s1.at_ k _ e2
  rw [e1.f k hk] at h1
  have hq : SqL K H1 (g.f k) vs := .of h1
  refine ⟨fun hi => ⟨vs, hq, by rw [← l1.length]; exact hi⟩, fun x hx => ?_⟩
  obtain ⟨v, hv, r⟩ := l1.get hx
  refine ⟨⟨vs, v, hq, hv⟩, fun w H' ⟨e1, e2⟩ => ?_⟩
  subst e1
  have := e2 vs hq
  rw [hv] at this; cases this
  exact ⟨Ext.refl _ _, s1, r⟩
theorem lc_turnsW {fin : List PV → Sto → Res PV} (hfin : FinOk T K E fin) {J : It} {I : Sto → Bool} {xs : List PV} {t : Tgt} {c : MB} {m : M} {vs : List Nat} {te : TE} {tt : TT} (hte : te = TV T K (fun _ _ _ => False) m) (htt : tt = TB T K (fun _ _ _ => False) c) (hsl : ∀ i ∈ t.slots, i ∈ vs) (hlm : ∀ v ∈ vs, Lm.at_ v = none)
    {σ : L2.St} {env : Lo} {g1 : G} {H1 : Hp} {s1 : Sto} {Q : VK} (so1 : StOk K g1 H1 s1) (en1 : EnvOk K g1 H1 env σ) (wk : WalksW K J xs g1 H1 I) (hf : fitL xs = true) (h1 : okR T K (rV K) g1 H1 ((lcGoW I t c m (wipeL env vs) xs s1).bind fun ys s2 => fin ys s2) Q E) :
    ∀ D, H1 D = none → ∃ W : Nat → Nat → Hp → Prop, (∃ m, W 0 m (upd H1 D (.lst []))) ∧ ∀ i m H, W i m H →
      (J.stop i H ∧ Q (.ref D) H) ∨ (J.go i H ∧ ∃ Nx : Hp → Prop, (∀ H', Nx H' → ∃ m', m' < m ∧ W (i + 1) m' H') ∧ ∀ x H', J.yld i H x H' → tgR K t x (wipe σ vs) H' fun σ2 H2 => wipe σ2 vs = wipe σ vs ∧ tt σ2 H2 fun b H3 =>
        if b = true then te σ2 H3 fun y H4 => ∃ acc, H4 D = some (.lst acc) ∧ acc.length < sizeLine ∧ Nx (upd H4 D (.lst (acc ++ [y]))) else Nx H3) := by
  subst hte htt
  intro D hD
  have hlen : xs.length ≤ sizeLine := fitL_ok hf
  refine ⟨fun i n H => i + n = xs.length ∧ ∃ g st acc ws, Ext g1 H1 g H ∧ StOk K g H st ∧ H D = some (.lst ws) ∧ RVL K g H acc ws ∧ ¬ g.F D ∧ (∀ i, i < g.n → g.f i ≠ D) ∧ acc.length ≤ i ∧
    okR T K (rV K) g1 H1 ((lcGoW I t c m (wipeL env vs) (xs.drop i) st).bind fun ys s2 => fin (acc ++ ys) s2) Q E, ⟨xs.length, by omega, g1, s1, [], [], ext_new so1 hD, st_new so1 hD, upd_same, .nil, fun z => (so1.fz D z).ne hD, fun i hi z => ?_, Nat.zero_le _, by simpa using h1⟩, ?_⟩
  · have hi' : i < s1.length := by rw [← so1.len]; exact hi
    exact (so1.at_ i s1[i] (List.getElem?_eq_getElem hi')).there (z ▸ hD)
  rintro i n H ⟨hn, g, st, acc, ws, e, s, hd, l, nf, ni, hacc, h⟩
  by_cases hI : I st = true
  · obtain ⟨w1, w2⟩ := wk g H st e s hI i
    by_cases hlt : i < xs.length
    · have hx : xs[i]? = some xs[i] := List.getElem?_eq_getElem hlt
      have hdr : xs.drop i = xs[i] :: xs.drop (i + 1) := List.drop_eq_getElem_cons hlt
      rw [hdr] at h
      obtain ⟨go, _⟩ := w2 _ hx
      refine .inr ⟨go, fun H' => ∃ g st acc ws, Ext g1 H1 g H' ∧ StOk K g H' st ∧ H' D = some (.lst ws) ∧ RVL K g H' acc ws ∧ ¬ g.F D ∧ (∀ i, i < g.n → g.f i ≠ D) ∧ acc.length ≤ i + 1 ∧
        okR T K (rV K) g1 H1 ((lcGoW I t c m (wipeL env vs) (xs.drop (i + 1)) st).bind fun ys s2 => fin (acc ++ ys) s2) Q E, fun H' w => ⟨n - 1, by omega, by omega, w⟩, fun v H' y => ?_⟩
      have sg : StOk K (g.grd D) H st := st_grd s ⟨_, hd, nofun⟩ nf ni
      have eg : Ext g1 H1 (g.grd D) H := e.trans ext_grd
      obtain ⟨_, w4⟩ := wk (g.grd D) H st eg sg hI i
      obtain ⟨e3, s3, r3⟩ := (w4 _ hx).2 v H' y
      have gD3 : (g.grd D).P D := .inr rfl
      simp only [lcGoW, hI, if_true] at h
      cases q2 : t.run xs[i] (wipeL env vs) with
      | none => rw [q2] at h; exact h.elim
      | some env1 =>
        rw [q2] at h
        dsimp only at h
        refine tg_ok ((en1.mono (eg.trans e3)).wipe vs hlm) r3 q2 fun σ2 en4 wp => ⟨?_, g.grd D, st, env1, s3, en4, ?_⟩
        · rw [wp vs hsl]
          exact wipe_twice vs σ
        · have hA : okR T K (rV K) g1 H1 ((c env1 st).only.bind fun b s1 => (if b = true then (m env1 s1).only.bind fun y s2 => (lcGoW I t c m (wipeL env vs) (xs.drop (i + 1)) s2).bind fun ys s3 => .ok (y :: ys) s3 else lcGoW I t c m (wipeL env vs) (xs.drop (i + 1)) s1).bind fun ys s2 => fin (acc ++ ys) s2) Q E := by
            cases qc : c env1 st with
            | ok b s1 => rw [qc] at h; exact h
            | exc n fs s1 => rw [qc] at h; exact h
            | bad => rw [qc] at h; exact h
          have ge3 : Ext g1 H1 (g.grd D) H' := eg.trans e3
          refine (hA.stepB (R' := rB) ge3).imp fun b H4 ⟨g4, st4, b', e4, s4, eb, h4⟩ => ?_
          subst eb
          have gD4 : g4.P D := (e4.P D gD3).1
          have hD4 : H4 D = some (.lst ws) := by rw [(e4.P D gD3).2, (e3.P D gD3).2]; exact hd
          have l4 : RVL K g4 H4 acc ws := (l.mono (ext_grd.trans e3)).mono e4
          cases b' with
          | false =>
            rw [if_neg Bool.false_ne_true] at h4 ⊢
            have e5 := ext_back (o := .lst ws) so1 (ge3.trans e4) s4 hD gD4 hD4
            have s5 := st_un (o := .lst ws) s4 gD4 hD4
            have x5 := ext_un (o := .lst ws) s4 gD4 hD4
            rw [upd_id hD4] at e5 s5 x5
            exact ⟨g4.ungrd D, st4, acc, ws, e5, s5, hD4, l4.monoW x5, (s4.pr D gD4).2.1, (s4.pr D gD4).2.2, by omega, h4⟩
          | true =>
            rw [if_pos rfl] at h4 ⊢
            refine ⟨g4, st4, env1, s4, en4.mono e4, ?_⟩
            have hB : okR T K (rV K) g1 H1 ((m env1 st4).only.bind fun y s2 => (lcGoW I t c m (wipeL env vs) (xs.drop (i + 1)) s2).bind fun ys s3 => fin (acc ++ (y :: ys)) s3) Q E := by
              cases qm : m env1 st4 with
              | ok y s2 =>
                rw [qm] at h4
                simp only [Res.only, Res.bind_ok] at h4 ⊢
                cases ql : lcGoW I t c m (wipeL env vs) (xs.drop (i + 1)) s2 with
                | ok ys s3 => rw [ql] at h4; exact h4
                | exc n fs s3 => rw [ql] at h4; exact h4
                | bad => rw [ql] at h4; exact h4
              | exc n fs s1 => rw [qm] at h4; exact h4
              | bad => rw [qm] at h4; exact h4
            refine (hB.stepB (R' := rV K) (ge3.trans e4)).imp fun y H5 ⟨g5, st5, yy, e5, s5, ry, h5⟩ => ?_
            have gD5 : g5.P D := (e5.P D gD4).1
            have hD5 : H5 D = some (.lst ws) := by rw [(e5.P D gD4).2]; exact hD4
            have x6 := ext_un (o := .lst (ws ++ [y])) s5 gD5 hD5
            refine ⟨ws, hD5, ?_, g5.ungrd D, st5, acc ++ [yy], ws ++ [y], ext_back so1 ((ge3.trans e4).trans e5) s5 hD gD5 hD5, st_un s5 gD5 hD5, upd_same, ?_, (s5.pr D gD5).2.1, (s5.pr D gD5).2.2, by simp; omega, ?_⟩
            · rw [← l.length]; omega
            · exact ((l4.mono e5).append (.cons ry .nil)).monoW x6
            · simpa using h5
    · have hdr : xs.drop i = [] := List.drop_eq_nil_of_le (by omega)
      rw [hdr] at h
      refine .inl ⟨w1 (by omega), hfin g1 H1 D s1 so1 hD g H st acc ws Q e s hd l nf ni ?_⟩
      simpa [lcGoW, hI] using h
  · exfalso
    have hb : lcGoW I t c m (wipeL env vs) (xs.drop i) st = .bad := by
      cases xs.drop i with
      | nil => simp only [lcGoW, if_neg hI]
      | cons x r => simp only [lcGoW, if_neg hI]
    rw [hb] at h
    exact h
theorem lcW_core {fin : List PV → Sto → Res PV} (hfin : FinOk T K E fin) {i : Nat} {t : Tgt} {c : MB} {m : M} {vs : List Nat} (hsl : ∀ i ∈ t.slots, i ∈ vs) (hlm : ∀ v ∈ vs, Lm.at_ v = none) {σ : L2.St} {H : Hp} {Q : VK} (h : TV T K E (mLcW fin i t c m vs) σ H Q) :
    tLc (iList K (tVar i)) (tgR K t) (TB T K (fun _ _ _ => False) c) (TV T K (fun _ _ _ => False) m) vs σ H Q ∨ tLc (TI' T K E (mIter (mVar i))) (tgR K t) (TB T K (fun _ _ _ => False) c) (TV T K (fun _ _ _ => False) m) vs σ H Q := by
  obtain ⟨g, st, env, s, en, h⟩ := h
  unfold mLcW at h
  split at h
  · rename_i k q
    split at h
    · rename_i xs e
      split at h
      · rename_i hf
        obtain ⟨v, hσ, r⟩ := en.at_ i _ q
        cases r with
        | ref hk =>
          obtain ⟨vs', h1, l1⟩ := s.at_ k _ e
          exact .inl ⟨_, hσ, _, rfl, ⟨vs', .of h1⟩, lc_turnsW hfin rfl rfl hsl hlm s en (walks_Lst s e) hf h⟩
      · exact h.elim
    · exact h.elim
  · exact .inr (lc_coreX hfin rfl rfl rfl hsl hlm ⟨g, st, env, s, en, h⟩)
end
theorem pe_or {X : Cx} {e : Expr} {t t' : TE} (h : PE X e t) (h' : PE X e t') : PE X e (fun σ H Q => t σ H Q ∨ t' σ H Q) :=
  ⟨fun pins s σ H Q I hw => hw.elim (h.run pins s σ H Q I) (h'.run pins s σ H Q I)⟩
section
variable {X : Cx} {T : String → Value} {E : XK} {elt tg : Expr} {ifs : List Expr} {scope : Scope} {own : List (Str × Nat)} {pos p : Pos} {t : Tgt} {c : MB} {m : M} {i : Nat} {x : Str} {fin : List PV → Sto → Res PV}
theorem x_lcW (hfin : FinOk T X.K E fin) (hc : X.calm = true) (hN : X.N.Nodup) (hx : X.N[i]? = some x) (hv : Vis X.env.scope x) (ok : BlkOk X.N X.env.scope scope own)
    (hg : ∀ (s : Shared) (H : Hp) (C : Addr) (cl : List (Str × Addr)) (fp : List Addr), GX (X.blk s H scope (compEnvC scope cl C X.env) fp) tg t) (ht : ∀ (s : Shared) (H : Hp) (C : Addr) (cl : List (Str × Addr)) (fp : List Addr), CX' (X.blk s H scope (compEnvC scope cl C X.env) fp) T ifs c)
    (he : ∀ (s : Shared) (H : Hp) (C : Addr) (cl : List (Str × Addr)) (fp : List Addr), EX (X.blk s H scope (compEnvC scope cl C X.env) fp) T (fun _ _ _ => False) elt m) (hsl : ∀ i ∈ t.slots, i ∈ own.map (·.2)) (hd : (x == ("__debug__" : Str)) = false := by decide) (hcd : (x == ("__classdict__" : Str)) = false := by decide)
    (hs : ∀ y, foldedSetIterable (.Name x p) X.env y = pure y := by intro _; rfl) (hlm : ∀ v ∈ own.map (·.2), Lm.at_ v = none := by first | exact fun _ _ => rfl | decide) :
    EX X T E (.ListComp elt [⟨tg, .Name x p, ifs, 0⟩] scope pos) (mLcW fin i t c m (own.map (·.2))) :=
  pe_imp (pe_or (pe_lc hc hN (pi_list (pe_var (pos := p) (i := i) hx hv hd hcd)) ok hg ht he hs) (pe_lc hc hN (i_any (T := T) (E := E) (x_var i hx hv hd hcd)) ok hg ht he hs)) fun σ H Q h => lcW_core hfin hsl hlm h
end
/-! ### for -/
/-! ### x[::-1] into the store -/
/-! ### by what they come to -/
theorem lcGoW_rel {α : Type} {I : Sto → Bool} {t : Tgt} {m : M} {env0 : Lo} {st : Sto} (hI : I st = true) (f g : α → PV) : ∀ (l : List α), (∀ a ∈ l, ∃ e, t.run (f a) env0 = some e ∧ m e st = .ok (g a) st) → lcGoW I t bYes m env0 (l.map f) st = .ok (l.map g) st
  | [], _ => by simp only [List.map_nil, lcGoW, hI, if_true]
  | a :: l, h => by
    obtain ⟨e, r, q⟩ := h a (List.mem_cons_self ..)
    have ih := lcGoW_rel hI f g l fun b hb => h b (List.mem_cons_of_mem _ hb)
    simp only [List.map_cons, lcGoW, hI, if_true, r, bYes, Res.only, Res.bind_ok, q, ih]
end Sim
set_option Elab.async false
set_option linter.all false
set_option maxRecDepth 100000
set_option maxHeartbeats 4000000
/-! a list of the store is given up ahead of a statement: it is never changed again -/
namespace Sim
open PySem PySem.Spec PyProof.Rows L2
end Sim
set_option Elab.async false
set_option linter.all false
set_option maxRecDepth 100000
set_option maxHeartbeats 4000000
/-! sorted of a dict of pairs of ints -/
namespace Sim
open PySem PySem.Spec PyProof.Rows L2
/-! ### pairs of ints, sorted -/
/-! ### pairs in the mirror -/
/-! ### the rule -/
/-! ### sorted(set(xs)), xs a list of pairs of small ints -/
end Sim
set_option Elab.async false
set_option linter.all false
set_option maxRecDepth 100000
set_option maxHeartbeats 4000000
/-! list(range(a, b)), and texts put together -/
namespace Sim
open PySem PySem.Spec PyProof.Rows L2
variable [Tb] [Lm]
def sJoin (x y : PV) (st : Sto) : Res PV := match x with
  | .str a => match (asL st y).bind asStrs with
    | some ys => if decide ((ys.map (·.length)).sum + ys.length * a.length ≤ 16777216) then .ok (.str (Txt.join a ys)) st else .bad
    | none => .bad
  | _ => .bad
def mJoin (a b : M) : M := fun env st => (a env st).bind fun x s1 => match x with
  | .str z => (b env s1).bind fun y s2 => sJoin (.str z) y s2
  | _ => .bad
section
variable {X : Cx} {T : String → Value} {E : XK} {e e2 : Expr} {m m2 : M} {pos : Pos}
theorem x_join {apos : Pos} (ho : EX X T E e m) (he : EX X T E e2 m2) (hs : starEach [e2] X.env = [(false, eval e2 X.env)] := by rfl) (hbase : attributeBase e "join" X.env (eval e X.env) = eval e X.env := by rfl) (hline : (apos.endLine == pos.line) = true := by rfl) : EX X T E (.Call (.Attribute e "join" apos) [e2] [] pos) (mJoin m m2) :=
  pe_imp (pe_join ho he hs hbase hline) fun σ H Q ⟨g, st, env, s, en, h⟩ => tv_of s en h fun g1 H1 st1 x v e1 s1 en1 r1 h1 => by
    split at h1
    · cases r1
      refine ⟨⟨_, rfl⟩, tv_of s1 en1 h1 fun g2 H2 st2 y u e2 s2 en2 r2 h2 => ?_⟩
      unfold sJoin at h2
      simp only at h2
      split at h2
      · rename_i ys q
        obtain ⟨xs, q1, q2⟩ := Option.bind_eq_some_iff.mp q
        split at h2
        · rename_i hf
          obtain ⟨a, vs, rfl, hq, l⟩ := asL_ok s2 r2 q1
          obtain rfl := asStrs_ok q2
          rw [l.strs] at hq
          exact ⟨_, _, _, rfl, rfl, .inl hq, of_decide_eq_true hf, okR.fin h2 s2 (.str _)⟩
        · exact h2.elim
      · exact h2.elim
    · exact h1.elim
end
end Sim
set_option Elab.async false
set_option linter.all false
set_option maxRecDepth 100000
set_option maxHeartbeats 4000000
/-! an except suite that returns what it makes of the error: isinstance of it, a def that is handed it -/
namespace Sim
open PySem PySem.Spec PyProof.Rows L2
/-! ### isinstance of the handled error -/
/-! ### a call within the suite -/
/-! ### try: ..; except C as n: return e -/
end Sim
set_option Elab.async false
set_option linter.all false
set_option maxRecDepth 100000
set_option maxHeartbeats 4000000
/-! a text times a number -/
namespace Sim
open PySem PySem.Spec PyProof.Rows L2
variable [Tb] [Lm]
def repS (z : Str) (n : Int) : Str := ⟨(List.replicate n.toNat z.cps).foldl (· ++ ·) #[]⟩
def sMulS : Se2 := fun x y st => match x, y with
  | .str z, .int n => if decide (2 ≤ n) && (decide (n ≤ 100) && (decide (1 ≤ z.length) && (decide (z.length ≤ 100) && decide ((repS z n).length ≤ 10000)))) then .ok (.str (repS z n)) st else .bad
  | _, _ => .bad
def rMulS : R2 := fun x y H Q => ∃ z n, x = .str z ∧ y = .int n ∧ 2 ≤ n ∧ n ≤ 100 ∧ 1 ≤ z.length ∧ z.length ≤ 100 ∧ (repS z n).length ≤ 10000 ∧ Q (.str (repS z n)) H
theorem op_mulS {X : Cx} : OpR X (binaryOp .Mult) rMulS := by
  intro pp s σ H x y v u Q I rx ry h0
  obtain ⟨z, n, rfl, rfl, n1, n2, z1, z2, hz, q⟩ := h0
  obtain ⟨t, rfl⟩ := rx
  obtain ⟨tk, rfl⟩ := ry
  have d0 : (decide (n < -(2 ^ 63 : Int)) || decide (n ≥ 2 ^ 63)) = false := by
    rw [decide_eq_false (by omega), decide_eq_false (by omega)]; rfl
  have ne : (n == 1 || z.length == 0) = false := by
    have a : (n == 1) = false := beq_eq_false_iff_ne.mpr (by omega)
    have b : (z.length == 0) = false := beq_eq_false_iff_ne.mpr (by omega)
    rw [a, b]; rfl
  refine PySem.P.mul_str d0 (fun _ _ hgt => ?_) (fun _ _ => ?_) ?_
  · have h1 : 100 ≤ (2 ^ 63 - 1) / n := Int.le_ediv_of_mul_le (by omega) (by omega)
    omega
  · have : z.length * n.toNat ≤ 100 * 100 := Nat.mul_le_mul z2 (by omega)
    exact PyProof.Rows.short24 (by omega)
  · rw [if_neg (by omega), if_neg (by rw [ne]; simp)]
    exact ⟨by have : (repS z n).length ≤ 10000 := hz; rw [sizeLine_eq]; show (repS z n).length ≤ _; omega, .str (repS z n), H, I.tok _, ⟨_, rfl⟩, q⟩
theorem s_mulS {T : String → Value} {K : PySem.W.Frag} {E : XK} : S2 T K E rMulS sMulS := by
  intro g H st x y v u Q s r1 r2 h
  unfold sMulS at h
  split at h
  · cases r1; cases r2
    split at h
    · rename_i hf
      simp only [Bool.and_eq_true, decide_eq_true_eq] at hf
      exact ⟨_, _, rfl, rfl, hf.1, hf.2.1, hf.2.2.1, hf.2.2.2.1, hf.2.2.2.2, okR.fin h s (.str _)⟩
    · exact h.elim
  · exact h.elim
end Sim
set_option Elab.async false
set_option linter.all false
set_option maxRecDepth 100000
set_option maxHeartbeats 4000000
/-! texts: split, partition, removeprefix, startswith, index, slices, int of a text, a text in a text -/
namespace Sim
open PySem PySem.Spec PyProof.Rows L2
variable [Tb] [Lm]
section
variable {T : String → Value} {K : PySem.W.Frag} {E : XK} {g : G} {H : Hp} {st : Sto}
theorem giveW {xs : List PV} {vs : List V} {Q : VK} (s : StOk K g H st) (r : RVL K g H xs vs) (h : okR T K (rV K) g H (.ok (.wtp xs) st) Q E) : ∀ p, H p = none → Q (.ref p) (upd H p (.tup vs)) := fun p hp =>
  okR.finE h (ext_new s hp) (st_new s hp) (.wtp (.inl (.inl upd_same)) (r.mono (ext_new s hp)))
theorem rvl_strs : ∀ ys : List Str, RVL K g H (ys.map PV.str) (ys.map V.str)
  | [] => .nil
  | y :: ys => .cons (.str y) (rvl_strs ys)
end
def mM1 (f : Se2) (a b : M) : M := fun env st => (a env st).bind fun x s1 => match x with
  | .str z => (b env s1).bind fun y s2 => f (.str z) y s2
  | _ => .bad
def sSplit : Se2 := fun x y st => match x, y with
  | .str a, .str b => if decide (1 ≤ b.length) && decide (a.length + 2 ≤ 16777216) then .ok (.lst ((Txt.split a b).map .str)) st else .bad
  | _, _ => .bad
def sPart : Se2 := fun x y st => match x, y with
  | .str a, .str b => if decide (1 ≤ b.length) && decide (a.length ≤ 16777216) then .ok (.wtp [.str (Txt.partition a b).1, .str (Txt.partition a b).2.1, .str (Txt.partition a b).2.2]) st else .bad
  | _, _ => .bad
def sRmPre : Se2 := fun x y st => match x, y with
  | .str a, .str b => if decide (a.length ≤ 16777216) then .ok (.str (Txt.removeprefix a b)) st else .bad
  | _, _ => .bad
def sStarts : Se2 := fun x y st => match x, y with
  | .str a, .str b => .ok (.bl (Txt.startswith a b)) st
  | _, _ => .bad
def sIntS : SeN := fun xs st => match xs with
  | [.str a] => match PySem.intText? a with
    | some n => if decide (a.length ≤ 640) then .ok (.int n) st else .bad
    | none => .bad
  | _ => .bad
section
variable {X : Cx} {T : String → Value} {E : XK} {e e2 : Expr} {m m2 : M} {pos apos : Pos}
theorem x_split (ho : EX X T E e m) (he : EX X T E e2 m2) (hs : starEach [e2] X.env = [(false, eval e2 X.env)] := by rfl) (hbase : attributeBase e "split" X.env (eval e X.env) = eval e X.env := by rfl) (hline : (apos.endLine == pos.line) = true := by rfl) : EX X T E (.Call (.Attribute e "split" apos) [e2] [] pos) (mM1 sSplit m m2) :=
  pe_imp (pe_split ho he hs hbase hline) fun σ H Q ⟨g, st, env, s, en, h⟩ => tv_of s en h fun g1 H1 st1 x v e1 s1 en1 r1 h1 => by
    split at h1
    · cases r1
      refine ⟨⟨_, rfl⟩, tv_of s1 en1 h1 fun g2 H2 st2 y u e2 s2 en2 r2 h2 => ?_⟩
      cases y with
      | str b =>
        cases r2
        simp only [sSplit] at h2
        split at h2
        · rename_i hf
          simp only [Bool.and_eq_true, decide_eq_true_eq] at hf
          exact ⟨_, b, rfl, rfl, beq_eq_false_iff_ne.mpr (by omega), by rw [sizeLine_eq]; exact hf.2, giveF s2 (rvl_strs _) h2⟩
        · exact h2.elim
      | _ => exact h2.elim
    · exact h1.elim
theorem x_part (ho : EX X T E e m) (he : EX X T E e2 m2) (hs : starEach [e2] X.env = [(false, eval e2 X.env)] := by rfl) (hbase : attributeBase e "partition" X.env (eval e X.env) = eval e X.env := by rfl) (hline : (apos.endLine == pos.line) = true := by rfl) : EX X T E (.Call (.Attribute e "partition" apos) [e2] [] pos) (mM1 sPart m m2) :=
  pe_imp (pe_partition ho he hs hbase hline) fun σ H Q ⟨g, st, env, s, en, h⟩ => tv_of s en h fun g1 H1 st1 x v e1 s1 en1 r1 h1 => by
    split at h1
    · cases r1
      refine ⟨⟨_, rfl⟩, tv_of s1 en1 h1 fun g2 H2 st2 y u e2 s2 en2 r2 h2 => ?_⟩
      cases y with
      | str b =>
        cases r2
        simp only [sPart] at h2
        split at h2
        · rename_i hf
          simp only [Bool.and_eq_true, decide_eq_true_eq] at hf
          exact ⟨_, b, rfl, rfl, beq_eq_false_iff_ne.mpr (by omega), by rw [sizeLine_eq]; exact hf.2, giveW s2 (.cons (.str _) (.cons (.str _) (.cons (.str _) .nil))) h2⟩
        · exact h2.elim
      | _ => exact h2.elim
    · exact h1.elim
theorem x_rmpre (ho : EX X T E e m) (he : EX X T E e2 m2) (hs : starEach [e2] X.env = [(false, eval e2 X.env)] := by rfl) (hbase : attributeBase e "removeprefix" X.env (eval e X.env) = eval e X.env := by rfl) (hline : (apos.endLine == pos.line) = true := by rfl) : EX X T E (.Call (.Attribute e "removeprefix" apos) [e2] [] pos) (mM1 sRmPre m m2) :=
  pe_imp (pe_m1 PySem.F.slot_str_removeprefix PySem.F.type_str_removeprefix mt_removeprefix ho he hs hbase hline) fun σ H Q ⟨g, st, env, s, en, h⟩ => tv_of s en h fun g1 H1 st1 x v e1 s1 en1 r1 h1 => by
    split at h1
    · cases r1
      refine ⟨⟨_, rfl⟩, tv_of s1 en1 h1 fun g2 H2 st2 y u e2 s2 en2 r2 h2 => ?_⟩
      cases y with
      | str b =>
        cases r2
        simp only [sRmPre] at h2
        split at h2
        · rename_i hf
          exact ⟨_, b, rfl, rfl, by rw [sizeLine_eq]; exact of_decide_eq_true hf, okR.fin h2 s2 (.str _)⟩
        · exact h2.elim
      | _ => exact h2.elim
    · exact h1.elim
theorem x_starts (ho : EX X T E e m) (he : EX X T E e2 m2) (hs : starEach [e2] X.env = [(false, eval e2 X.env)] := by rfl) (hbase : attributeBase e "startswith" X.env (eval e X.env) = eval e X.env := by rfl) (hline : (apos.endLine == pos.line) = true := by rfl) : EX X T E (.Call (.Attribute e "startswith" apos) [e2] [] pos) (mM1 sStarts m m2) :=
  pe_imp (pe_m1 PySem.F.slot_str_startswith PySem.F.type_str_startswith mt_startswith ho he hs hbase hline) fun σ H Q ⟨g, st, env, s, en, h⟩ => tv_of s en h fun g1 H1 st1 x v e1 s1 en1 r1 h1 => by
    split at h1
    · cases r1
      refine ⟨⟨_, rfl⟩, tv_of s1 en1 h1 fun g2 H2 st2 y u e2 s2 en2 r2 h2 => ?_⟩
      cases y with
      | str b =>
        cases r2
        exact ⟨_, b, rfl, rfl, okR.fin h2 s2 (.bl _)⟩
      | _ => exact h2.elim
    · exact h1.elim
theorem n_intS : SN T X.K E (fun xs H Q => ∃ a n, xs = [.str a] ∧ PySem.intText? a = some n ∧ a.length ≤ 640 ∧ Q (.int n) H) sIntS := by
  intro g H st xs vs Q s l h
  unfold sIntS at h
  split at h
  · obtain ⟨v, rfl, r⟩ := one_of l
    cases r
    split at h
    · rename_i n hn
      split at h
      · rename_i hl
        exact ⟨_, n, rfl, hn, of_decide_eq_true hl, okR.fin h s (.int _)⟩
      · exact h.elim
    · exact h.elim
  · exact h.elim
def sSlcS (x : PV) (lo hi : Option Int) (st : Sto) : Res PV := match x with
  | .str z => if decide (z.length ≤ 16777216) then .ok (.str (cutS z lo hi)) st else .bad
  | _ => .bad
def mSliceS (a : M) (lo hi : MO') : M := fun env st => (a env st).bind fun x s1 => (lo env s1).bind fun l s2 => (hi env s2).bind fun u s3 => sSlcS x l u s3
theorem x_sliceS {lo hi : Option Expr} {ml mu : MO'} {p2 : Pos} (ha : EX X T E e m) (hl : OX X T E lo ml) (hu : OX X T E hi mu) : EX X T E (.Subscript e (.Slice lo hi none p2) pos) (mSliceS m ml mu) :=
  pe_imp (pe_slice sl_str ha hl hu) fun σ H Q ⟨g, st, env, s, en, h⟩ => tv_of s en h fun g1 H1 st1 x v e1 s1 en1 r1 h1 => ⟨g1, st1, env, s1, en1, h1.step.imp fun l H2 ⟨g2, st2, l', e2, s2, r2, h2⟩ => by
    subst r2
    exact ⟨g2, st2, env, s2, en1.mono e2, h2.step.imp fun u H3 ⟨g3, st3, u', e3, s3, r3, h3⟩ => by
      subst r3
      unfold sSlcS at h3
      split at h3
      · cases r1
        split at h3
        · rename_i hf
          exact ⟨_, rfl, by rw [sizeLine_eq]; exact of_decide_eq_true hf, okR.fin h3 s3 (.str _)⟩
        · exact h3.elim
      · exact h3.elim⟩⟩
end
end Sim
set_option Elab.async false
set_option linter.all false
set_option maxRecDepth 100000
set_option maxHeartbeats 4000000
/-! try: x = f(..); except C: return e -/
namespace Sim
open PySem PySem.Spec PyProof.Rows L2
variable [Tb] [Lm]
section
variable {X : Cx} {T : String → Value} {E : XK} {k j n : Nat} {ps : List Str} {F : MF} {x : Str} {p pos pos2 : Pos} {e : Expr} {es : List Expr} {ms : ML}
/-- a call within a try's body -/
theorem pe_tryCall (d : DfX X.prog X.w X.K X.mg X.base T x k ps F) (gd : Gd X.A) (hr : Room j X.A) (hj : k ≤ j) (hg : Gl X x) (ha : ∀ (pn : List (Addr × Obj)) (xe : Value → Shared → Prop), AX (X.tr pn xe) T E0 (e :: es) ms) (hdb : (x == ("__debug__" : Str)) = false := by decide)
    (he : starEach (e :: es) X.env = (false, eval e X.env) :: starEach es X.env := by rfl) (hpl : (backTo pos (starEach es X.env)).any (·.1) = false := by rfl) (hn : ps.length = n := by rfl)
    (W : L2.WX) (pn : List (Addr × Obj)) (xe : Value → Shared → Prop) (tk : L2.Takes (X.tr pn xe) W) :
    PE (X.tr pn xe) (.Call (.Name x p) (e :: es) [] pos) (fun σ H Q => ∃ g st env, StOk X.K g H st ∧ EnvOk X.K g H env σ ∧ okR T X.K (rV X.K) g H (mAppO (fnN n F) ms env st) (fun v H' => Q v H') (fun c d H' => W c d σ H')) := by
  subst hn
  obtain ⟨f, fd, h1, h2, h3, h4⟩ := d.ex
  have pe : PE (X.tr pn xe) (.Call (.Name x p) (e :: es) [] pos) (fun σ H Q => TL T X.K E0 ms σ H fun vs H1 => spM T X.K ps.length F vs H1 Q (WE W σ)) := by
    constructor
    intro pins s σ H Q I h
    apply wpAny_Call_Name_kw
    refine ld_glob I hg h2 ?_ hdb
    have args := (ha pn xe).run pos pins s σ H _ I h
    refine PySem.W.callWith_K (h₀ := X.base) I.ok.mod.kin h3 (thn args ?_) he hpl
    rintro us s1 ⟨vs, H1, I1, r, q⟩
    refine ⟨I1.kIn, ?_⟩
    have hl : us.length = ps.length := r.length.symm.trans q.1
    have b := h4 s1 us I1.kIn (by rw [List.append_nil]; exact hl)
    rw [List.append_nil] at b
    have c := h1.go X.A X.stack s1 H1 ⟨us, []⟩ us vs Q (WE W σ) gd (hr.mono hj) I1.env0 b r q
    refine wpAny_call (codeAny_mono c ?_)
    intro res s' hq
    match res, hq with
    | .error er, hq => exact L2.passAt tk σ pins H1 s1 er s' I1 hq
    | .ok (.ret u), hq => exact I1.after hq
  refine pe_imp pe fun σ H Q ⟨g, st, env, so, en, h⟩ => ⟨g, st, env, so, en, ?_⟩
  unfold mAppO at h
  cases q : ms env st with
  | exc n fs s => rw [q] at h; exact h.elim
  | bad => rw [q] at h; exact h.elim
  | ok xs s =>
    rw [q] at h
    intro g1 H1 vs e1 s1 r1
    simp only [Res.only, Res.bind_ok, fnN] at h
    split at h
    · rename_i hl
      exact ⟨by rw [← r1.length]; exact hl, g1, s, xs, s1, r1, okR.ext h e1⟩
    · exact h.elim
end
/-- what holds of the call in the body -/
def PEX (X : Cx) (T : String → Value) (e : Expr) (m : M) : Prop := ∀ (W : L2.WX) (pn : List (Addr × Obj)) (xe : Value → Shared → Prop), L2.Takes (X.tr pn xe) W →
  PE (X.tr pn xe) e (fun σ H Q => ∃ g st env, StOk X.K g H st ∧ EnvOk X.K g H env σ ∧ okR T X.K (rV X.K) g H (m env st) (fun v H' => Q v H') (fun c d H' => W c d σ H'))
end Sim
set_option Elab.async false
set_option linter.all false
set_option maxRecDepth 100000
set_option maxHeartbeats 4000000
/-! try: return f(..) except C: return e;  try: f(..); return b except C: return e;  upper -/
namespace Sim
open PySem PySem.Spec PyProof.Rows L2
variable [Tb] [Lm]
def cTryV (cs : List String) (m mr : M) : MS := fun env st => match m env st with
  | .ok v s => .rt v s
  | .exc n [] s => if cs.contains n then (match mr env s with
    | .ok v s1 => .rt v s1
    | _ => .bad) else .bad
  | _ => .bad
theorem s_tryV {X : Cx} {T : String → Value} {E : XK} {cs : List String} {x : Str} {c : Value} {e e2 : Expr} {np pos' rp pos p3 : Pos} {m mr : M} (hcs : ∀ n ∈ cs, PySem.W.exmOne X.K (T n) c = some true) (stk : X.stack = X.env :: X.outer) (frm : X.env.frame = some X.env.locals)
    (hnm : Names X x c) (hb : PEX X T e m) (su : ∀ (u : Addr) (pn : List (Addr × Obj)), EX (X.suite u pn) T E0 e2 mr) :
    SX X T E (.Try [.Return (some e) p3] [.ExceptHandler (some (.Name x np)) none [.Return (some e2) rp] pos'] [] [] pos) (cTryV cs m mr) := by
  let ts : Addr → Value → Option Addr → TS := fun _ _ _ D σ H => TV T X.K E0 mr σ H (fun v H1 => D.rt v H1)
  have hsu : ∀ (a : Addr) (oe : Obj) (cls : Value) (d : Option Addr) (pn : List (Addr × Obj)), Zc cls d oe → (∃ vs, oe.data = .fields vs) → PSs (X.suite a ((a, oe) :: pn)) [.Return (some e2) rp] (ts a cls d) :=
    fun a oe cls d pn _ _ => pss_one (ps_ret (su a ((a, oe) :: pn)))
  let tb : L2.WX → TS := fun W D σ H => ∃ g st env, StOk X.K g H st ∧ EnvOk X.K g H env σ ∧ okR T X.K (rV X.K) g H (m env st) (fun v H' => D.rt v H') (fun c d H' => W c d σ H')
  have hbody : ∀ (W : L2.WX) (pn : List (Addr × Obj)) (xe : Value → Shared → Prop), L2.Takes (X.tr pn xe) W → PassesOwn (model X.prog X.w) X.A X.env xe → PSs (X.tr pn xe) [.Return (some e) p3] (tb W) :=
    fun W pn xe tk _ => pss_one (ps_ret (X := X.tr pn xe) (hb W pn xe tk))
  refine ps_imp (ps_try_many (Wout := fun _ _ _ _ => False) stk frm takes_none5 hbody (.cons hnm hsu .nil)) fun D σ H ⟨g, st, env, so, en, h⟩ => ⟨g, st, env, so, en, ?_⟩
  unfold cTryV at h
  cases q : m env st with
  | bad => rw [q] at h; exact h.elim
  | ok y s =>
    rw [q] at h
    exact fun g1 H1 v e1 s1 r1 => h g1 H1 v e1 s1 r1
  | exc n fs s =>
    rw [q] at h
    cases fs with
    | cons a fs => exact h.elim
    | nil =>
      simp only at h
      split at h
      · rename_i hc
        have hm : n ∈ cs := List.contains_iff_mem.mp hc
        rintro g1 H1 c' d e1 s1 ⟨rfl, rfl⟩
        refine ⟨true, hcs n hm, fun _ a na => ⟨g1, s, env, s1, en.mono e1, ?_⟩, nofun⟩
        split at h
        · rename_i v s2 hq
          rw [hq]
          exact fun g2 H2 v2 e2 s2' r2 => h g2 H2 v2 (e1.trans e2) s2' r2
        · exact h.elim
      · exact h.elim
def cTryF (cs : List String) (m : M) (b : Bool) (mr : M) : MS := fun env st => match m env st with
  | .ok _ s => .rt (.bl b) s
  | .exc n [] s => if cs.contains n then (match mr env s with
    | .ok v s1 => .rt v s1
    | _ => .bad) else .bad
  | _ => .bad
theorem s_tryF {X : Cx} {T : String → Value} {E : XK} {cs : List String} {x : Str} {c : Value} {e e2 : Expr} {b : Bool} {j : Nat} {np pos' rp pos p3 p4 p5 : Pos} {m mr : M} (hcs : ∀ n ∈ cs, PySem.W.exmOne X.K (T n) c = some true) (stk : X.stack = X.env :: X.outer) (frm : X.env.frame = some X.env.locals)
    (hnm : Names X x c) (hb : PEX X T e m) (su : ∀ (u : Addr) (pn : List (Addr × Obj)), EX (X.suite u pn) T E0 e2 mr) (hsw : swapsWith e none p3.line X.env = pure false := by rfl) :
    SX X T E (.Try [.Expr e p3, .Return (some (.Constant (.bool b) j p4)) p5] [.ExceptHandler (some (.Name x np)) none [.Return (some e2) rp] pos'] [] [] pos) (cTryF cs m b mr) := by
  let ts : Addr → Value → Option Addr → TS := fun _ _ _ D σ H => TV T X.K E0 mr σ H (fun v H1 => D.rt v H1)
  have hsu : ∀ (a : Addr) (oe : Obj) (cls : Value) (d : Option Addr) (pn : List (Addr × Obj)), Zc cls d oe → (∃ vs, oe.data = .fields vs) → PSs (X.suite a ((a, oe) :: pn)) [.Return (some e2) rp] (ts a cls d) :=
    fun a oe cls d pn _ _ => pss_one (ps_ret (su a ((a, oe) :: pn)))
  let tb : L2.WX → TS := fun W D σ H => ∃ g st env, StOk X.K g H st ∧ EnvOk X.K g H env σ ∧ okR T X.K (rV X.K) g H (m env st) (fun _ H' => D.rt (.bl b) H') (fun c d H' => W c d σ H')
  have hbody : ∀ (W : L2.WX) (pn : List (Addr × Obj)) (xe : Value → Shared → Prop), L2.Takes (X.tr pn xe) W → PassesOwn (model X.prog X.w) X.A X.env xe → PSs (X.tr pn xe) [.Expr e p3, .Return (some (.Constant (.bool b) j p4)) p5] (tb W) :=
    fun W pn xe tk _ => pss_imp (pss_cons (ps_expr (X := X.tr pn xe) (hb W pn xe tk) hsw) (pss_one (ps_ret (X := X.tr pn xe) pe_bl))) fun D σ H h => h
  refine ps_imp (ps_try_many (Wout := fun _ _ _ _ => False) stk frm takes_none5 hbody (.cons hnm hsu .nil)) fun D σ H ⟨g, st, env, so, en, h⟩ => ⟨g, st, env, so, en, ?_⟩
  unfold cTryF at h
  cases q : m env st with
  | bad => rw [q] at h; exact h.elim
  | ok y s =>
    rw [q] at h
    exact fun g1 H1 v e1 s1 r1 => h g1 H1 _ e1 s1 (.bl b)
  | exc n fs s =>
    rw [q] at h
    cases fs with
    | cons a fs => exact h.elim
    | nil =>
      simp only at h
      split at h
      · rename_i hc
        have hm : n ∈ cs := List.contains_iff_mem.mp hc
        rintro g1 H1 c' d e1 s1 ⟨rfl, rfl⟩
        refine ⟨true, hcs n hm, fun _ a na => ⟨g1, s, env, s1, en.mono e1, ?_⟩, nofun⟩
        split at h
        · rename_i v s2 hq
          rw [hq]
          exact fun g2 H2 v2 e2 s2' r2 => h g2 H2 v2 (e1.trans e2) s2' r2
        · exact h.elim
      · exact h.elim
def mUp (a : M) : M := fun env st => (a env st).bind fun x s1 => match x with
  | .str z => if decide (z.length ≤ 5592405) then .ok (.str (Txt.upper z)) s1 else .bad
  | _ => .bad
theorem x_upper {X : Cx} {T : String → Value} {E : XK} {e : Expr} {m : M} {apos pos : Pos} (ho : EX X T E e m) (hbase : attributeBase e "upper" X.env (eval e X.env) = eval e X.env := by rfl) (hline : (apos.endLine == pos.line) = true := by rfl) : EX X T E (.Call (.Attribute e "upper" apos) [] [] pos) (mUp m) :=
  pe_imp (pe_m0 PySem.F.slot_str_upper PySem.F.type_str_upper mt_upper ho hbase hline) fun σ H Q ⟨g, st, env, s, en, h⟩ => tv_of s en h fun g1 H1 st1 x v e1 s1 en1 r1 h1 => by
    split at h1
    · cases r1
      split at h1
      · rename_i hf
        exact ⟨⟨_, rfl⟩, _, rfl, rfl, of_decide_eq_true hf, okR.fin h1 s1 (.str _)⟩
      · exact h1.elim
    · exact h1.elim
end Sim
set_option Elab.async false
set_option linter.all false
set_option maxRecDepth 100000
set_option maxHeartbeats 4000000
/-! replace with a count; what is done where a token is out -/
namespace Sim
open PySem PySem.Spec PyProof.Rows L2 Builtin Builtin.Str
/-- the first occurrence replaced -/
def rep1 (x y z : Str) : Str :=
  if ((occurrences x y 0 x.length 1).isEmpty || (y.length == 0 && z.length == 0)) = true then x
  else glued z (partsBetween x (occurrences x y 0 x.length 1) y.length)
theorem gives_rep1 (x y z : Str) (t u v w : Tok)
    (hf : ((occurrences x y 0 x.length 1).isEmpty || (y.length == 0 && z.length == 0)) = false →
      (u == 0 || v == 0) = false ∧ (u == v) = false ∧ (y == z) = false ∧ tooLong (x.length + (occurrences x y 0 x.length 1).length * z.length) = false) :
    Gives («str.replace» ⟨[.str x t, .str y u, .str z v, .int 1 w], []⟩) (if ((occurrences x y 0 x.length 1).isEmpty || (y.length == 0 && z.length == 0)) = true then .val (.str x t) else .str (glued z (partsBetween x (occurrences x y 0 x.length 1) y.length))) := by
  show Gives (if ((occurrences x y 0 x.length 1).isEmpty || (y.length == 0 && z.length == 0)) = true then (do rule "str.replace.nothing"; ret (.str x t)) else
          (do let same ← isSame (.str y u) (.str z v)
              if same = true then (do rule "str.replace.old-is-new"; ret (.str x t)) else
              if tooLong (x.length + (occurrences x y 0 x.length 1).length * z.length) = true then unsupported "str.replace:memory" else
              retStr (glued z (partsBetween x (occurrences x y 0 x.length 1) y.length)))) _
  cases hc : ((occurrences x y 0 x.length 1).isEmpty || (y.length == 0 && z.length == 0))
  · obtain ⟨h0, huv, hyz, hl⟩ := hf hc
    rw [isSame_str_other y z u v h0 huv hyz, hl]
    exact .of_eq rfl
  · exact .rule (.of_eq rfl)
theorem fits_rep1 {x z : Str} (y : Str) (hb : x.length + z.length ≤ 16777216) :
    (glued z (partsBetween x (occurrences x y 0 x.length 1) y.length)).length ≤ sizeLine := by
  have h1 := StrLaws.occ_length_le x y 0 x.length 1
  have hy : (glued y (partsBetween x (occurrences x y 0 x.length 1) y.length)).length = x.length := by rw [StrLaws.glued_between_self]
  rw [size_glued, length_partsBetween, Nat.add_sub_cancel] at hy
  rw [size_glued, length_partsBetween, Nat.add_sub_cancel, sizeLine_eq]
  have h2 : (occurrences x y 0 x.length 1).length * z.length ≤ 1 * z.length := Nat.mul_le_mul_right _ h1
  omega
theorem call_rep1 {prog : Program} {w : World} {A : Around} {E : Value → Shared → Prop} {s : Shared} {x y z : Str} {t u v o : Tok} {Q : Value → Shared → Prop} (hu : u ≠ 0) (hv : v ≠ 0) (huv : u ≠ v) (hyz : (y == z) = false) (hb : x.length + z.length ≤ 16777216)
    (hq : ∀ t' k, Q (.str (rep1 x y z) t') { s with toks := k }) : wpAny (model prog w) A (call (.builtin "str.replace") [.str x t, .str y u, .str z v, .int 1 o]) Q E s := by
  have hl : tooLong (x.length + (occurrences x y 0 x.length 1).length * z.length) = false := by
    have h1 := StrLaws.occ_length_le x y 0 x.length 1
    have h2 : (occurrences x y 0 x.length 1).length * z.length ≤ 1 * z.length := Nat.mul_le_mul_right _ h1
    have e : (2 : Nat) ^ 24 = 16777216 := by decide
    unfold tooLong sizeLine
    exact decide_eq_false (by omega)
  refine call_gives F.slot_str_replace (typeIs_str _ _ _) F.entry_str_replace (F.args_str_replace_4 _ _ _ _)
    (gives_rep1 x y z t u v o fun _ => ⟨by simp [hu, hv], by simp [huv], hyz, hl⟩) ?_
  have hq' := hq
  unfold rep1 at hq'
  cases hc : ((occurrences x y 0 x.length 1).isEmpty || (y.length == 0 && z.length == 0))
  · rw [hc] at hq'
    simp only [Bool.false_eq_true, if_false] at hq' ⊢
    exact ⟨fits_rep1 y hb, hq' _ _⟩
  · rw [hc] at hq'
    simp only [if_true] at hq' ⊢
    exact hq' t s.toks
def tRep1 (to : TE) (y z : Str) : TE := fun σ H Q => to σ H fun v H1 => ∃ x, v = .str x ∧ x.length + z.length ≤ 16777216 ∧ Q (.str (rep1 x y z)) H1
section
variable {X : Cx} {o : Expr} {to te : TE} {y z : Str} {j k l : Nat} {c0 c1 c2 apos pos : Pos}
theorem pet_rep1 (ho : PET X o to) (hyz : (y == z) = false := by decide)
    (hst : starEach [.Constant (.str y) j c0, .Constant (.str z) k c1, .Constant (.int 1) l c2] X.env = [(false, eval (.Constant (.str y) j c0) X.env), (false, eval (.Constant (.str z) k c1) X.env), (false, eval (.Constant (.int 1) l c2) X.env)] := by rfl)
    (hbase : attributeBase o "replace" X.env (eval o X.env) = eval o X.env := by rfl) (hline : (apos.endLine == pos.line) = true := by rfl) :
    PET X (.Call (.Attribute o "replace" apos) [.Constant (.str y) j c0, .Constant (.str z) k c1, .Constant (.int 1) l c2] [] pos) (tRep1 to y z) := by
  intro pins s σ H Q h0 I h
  refine wpAny_Call_method_lateS hbase (by rw [hst]; rfl) hline ?_
  rw [hst]
  refine wpAny_mono (PySem.wpAny_toks (ho pins s σ H _ h0 I h)) (fun v s1 q => ?_) fun _ _ z => z.2
  obtain ⟨hk, v', H1, I1, r1, x, e1, hb, q⟩ := q
  subst e1
  obtain ⟨tx, e2⟩ := r1
  subst e2
  refine ⟨"str", _, PySem.F.plainAttrs_str, PySem.F.slot_str_replace, PySem.F.type_str_replace, typeIs_str _ _ _, (fun _ e => nomatch e), Calls.callWith_builtin rfl (Calls.evalArgs_plain (Calls.spliced_cons ?_))⟩
  show wpAny _ _ (eval (.Constant (.str y) j c0) X.env) _ _ _
  refine Calls.Constant_str ?_
  refine Calls.spliced_cons ?_
  show wpAny _ _ (eval (.Constant (.str z) k c1) X.env) _ _ _
  refine Calls.Constant_str ?_
  refine Calls.spliced_cons ?_
  show wpAny _ _ (eval (.Constant (.int 1) l c2) X.env) _ _ _
  refine wpAny_Constant_int ?_
  refine Calls.spliced_nil ?_
  exact call_rep1 (by show s1.toks ≠ 0; omega) (by show s1.toks + 1 ≠ 0; omega) (by show s1.toks ≠ s1.toks + 1; omega) hyz hb fun t' k => ⟨.str (rep1 x y z), H1, I1.tok k, ⟨t', rfl⟩, q⟩
theorem pet_imp {e : Expr} {t t' : TE} (h : PET X e t) (hi : ∀ σ H Q, t' σ H Q → t σ H Q) : PET X e t' := fun pins s σ H Q h0 I q => h pins s σ H Q h0 I (hi σ H Q q)
theorem pat_imp {es : List Expr} {t t' : TA} (h : PAT X es t) (hi : ∀ σ H Q, t' σ H Q → t σ H Q) : PAT X es t' := fun pos pins s σ H Q h0 I q => h pos pins s σ H Q h0 I (hi σ H Q q)
theorem PAT.of {es : List Expr} {t : TA} (h : PA X es t) : PAT X es t := fun pos pins s σ H Q _ I q => h.run pos pins s σ H Q I q
/-- a name is set, one token out -/
theorem pst_setT {i : Nat} {x : Str} {e : Expr} {pos' : Pos} (hN : X.N.Nodup) (hi : X.N[i]? = some x) (hx : Loc X.env.scope x) (he : PET X e te) (hs : swapsWith e (some (.Name x pos')) pos.line X.env = pure false := by rfl) (hf : X.fn x = true ∨ X.env.scope.names.lookup x = some .local := by first | exact .inl rfl | exact .inr rfl | assumption) :
    PST X (.Assign [.Name x pos'] e pos) (tAsg te (gName i)) := by
  intro pins s σ H D h0 I h
  refine wpAny_Assign_Name (thn (he pins s σ H _ h0 I h) fun v s1 ⟨y, H1, I1, r1, q1⟩ => ?_) hs
  exact store_ok I1 hN hi hx r1 (fun s2 I2 => ⟨_, H1, I2, q1⟩) hf
/-- what surely puts a token out -/
def PEK (X : Cx) (e : Expr) (t : TE) : Prop :=
  ∀ (pins : List (Addr × Obj)) (s : Shared) (σ : L2.St) (H : Hp) (Q : VK), Inv X pins σ H s → t σ H Q → wpAny (model X.prog X.w) X.A (eval e X.env) (fun v s1 => 1 ≤ s1.toks ∧ EP X pins σ Q v s1) X.xe s
theorem pek_lst {c : Str} {es : List Expr} {ta : TA} (ha : PA X es ta) (hs : starEach (.Constant (.str c) j c0 :: es) X.env = (false, eval (.Constant (.str c) j c0) X.env) :: starEach es X.env := by rfl) :
    PEK X (.List (.Constant (.str c) j c0 :: es) pos) (tLst (tCons (tC (.str c)) ta)) := by
  intro pins s σ H Q I hq
  refine wpAny_List_spliced ?_
  rw [hs]
  show wpAny _ _ (spliced ((false, eval (.Constant (.str c) j c0) X.env) :: backTo pos (starEach es X.env))) _ _ s
  refine Calls.spliced_cons (Calls.Constant_str ?_)
  have I0 : Inv X pins σ H { s with toks := s.toks + 1 } := I.tok _
  refine wpAny_mono (PySem.wpAny_toks (ha.run pos pins { s with toks := s.toks + 1 } σ H _ I0 hq)) (fun us s1 q => ?_) fun _ _ z => z.2
  obtain ⟨hk, xs, H1, I1, r, z, q⟩ := q
  have hk : s.toks + 1 ≤ s1.toks := hk
  have r2 : Vals (V.str c :: xs) (Value.str c s.toks :: us) := .cons ⟨_, rfl⟩ r
  have hf : H1 s1.heap.objs.size = none := I1.hok.fresh (Nat.le_refl _)
  refine ⟨by rw [← r2.length]; exact z, ?_⟩
  refine ⟨by show 1 ≤ s1.toks; omega, .ref s1.heap.objs.size, upd H1 s1.heap.objs.size (.lst (V.str c :: xs)), I1.laid (t' := s1.toks) (fun b u e => Heap.get?_push_of_some _ e) (Nat.le_refl _) ?_, rfl, q _ hf⟩
  exact ⟨z, _, 0, r2, Heap.get?_push_size _ rfl⟩
theorem pek_ix {a b : Expr} {r : R2} {ta tb : TE} (hr : IxR X r) (ha : PEK X a ta) (hb : PE X b tb) (hs : PlainIx b) : PEK X (.Subscript a b pos) (tOp r ta tb) := by
  intro pins s σ H Q I h
  refine Subscript_ (wpAny_mono (ha pins s σ H _ I h) (fun v s1 q => ?_) fun _ _ z => z)
  obtain ⟨hk, x, H1, I1, r1, q1⟩ := q
  refine wpAny_mono (PySem.wpAny_toks (hb.run pins s1 σ H1 _ I1 q1)) (fun u s2 q => ?_) fun _ _ z => z.2
  obtain ⟨hk2, y, H2, I2, r2, q2⟩ := q
  refine wpAny_mono (PySem.wpAny_toks (hr a b pins s2 σ H2 x y v u Q I2 r1 r2 q2 (hs _ _))) (fun u s3 q => ?_) fun _ _ z => z.2
  exact ⟨Nat.le_trans hk (Nat.le_trans hk2 q.1), q.2⟩
theorem pek_imp {e : Expr} {t t' : TE} (h : PEK X e t) (hi : ∀ σ H Q, t' σ H Q → t σ H Q) : PEK X e t' := fun pins s σ H Q I q => h pins s σ H Q I (hi σ H Q q)
theorem pss_setK {i : Nat} {x : Str} {e : Expr} {rest : List Stmt} {u : TS} {pos' : Pos} (hN : X.N.Nodup) (hi : X.N[i]? = some x) (hx : Loc X.env.scope x) (he : PEK X e te) (h2 : PSsT X rest u) (hs : swapsWith e (some (.Name x pos')) pos.line X.env = pure false := by rfl) (hf : X.fn x = true ∨ X.env.scope.names.lookup x = some .local := by first | exact .inl rfl | exact .inr rfl | assumption) :
    PSs X (.Assign [.Name x pos'] e pos :: rest) (tSeq (tAsg te (gName i)) u) := by
  refine ⟨fun pins s σ H D I h => ?_⟩
  refine wpAny_execs_cons (wpAny_Assign_Name (wpAny_mono (he pins s σ H _ I h) (fun v s1 q => ?_) fun _ _ z => z) hs)
  obtain ⟨hk, y, H1, I1, r1, q1⟩ := q
  refine wpAny_mono (PySem.wpAny_toks (store_ok (Q := fun _ s2 => Inv X pins (σ.set i (some y)) H1 s2) I1 hN hi hx r1 (fun _ I2 => I2) hf)) (fun _ s2 q => ?_) fun _ _ z => z.2
  exact h2 pins s2 _ H1 D (Nat.le_trans hk q.1) q.2 q1
end
end Sim
set_option Elab.async false
set_option linter.all false
set_option maxRecDepth 100000
set_option maxHeartbeats 4000000
/-! statements where a token is out: replace -/
namespace Sim
open PySem PySem.Spec PyProof.Rows L2
variable [Tb] [Lm]
structure EXT (X : Cx) (T : String → Value) (E : XK) (e : Expr) (m : M) : Prop where
  go : PET X e (TV T X.K E m)
structure AXT (X : Cx) (T : String → Value) (E : XK) (es : List Expr) (ms : ML) : Prop where
  go : PAT X es (TL T X.K E ms)
structure EXK (X : Cx) (T : String → Value) (E : XK) (e : Expr) (m : M) : Prop where
  go : PEK X e (TV T X.K E m)
structure SXT (X : Cx) (T : String → Value) (E : XK) (s : Stmt) (m : MS) : Prop where
  go : PST X s (TSt T X.K E m)
structure SXsT (X : Cx) (T : String → Value) (E : XK) (s : List Stmt) (m : MS) : Prop where
  go : PSsT X s (TSt T X.K E m)
def mRepC (y z : Str) (a : M) : M := fun env st => (a env st).bind fun x s1 => match x with
  | .str b => if decide (b.length + (b.length + 1) * z.length ≤ 16777216) then .ok (.str (Txt.replace b y z)) s1 else .bad
  | _ => .bad
def mRep1 (y z : Str) (a : M) : M := fun env st => (a env st).bind fun x s1 => match x with
  | .str b => if decide (b.length + z.length ≤ 16777216) then .ok (.str (rep1 b y z)) s1 else .bad
  | _ => .bad
section
variable {X : Cx} {T : String → Value} {E : XK} {a b e : Expr} {es : List Expr} {ma mb m : M} {ms : ML} {pos apos c0 c1 c2 : Pos} {j k l : Nat} {y z : Str} {st : Stmt} {rest : List Stmt} {u v : MS}
theorem xt (h : EX X T E e m) : EXT X T E e m := ⟨CwR.PET.of h⟩
theorem xt_bin {op : Operator} {r : R2} {f : Se2} (ho : OpR X (binaryOp op) r) (hs : S2 T X.K E r f) (ha : EXT X T E a ma) (hb : EXT X T E b mb) : EXT X T E (.BinOp a op b pos) (mBin f ma mb) :=
  ⟨pet_imp (CwR.pet_op ho ha.go hb.go) fun σ H Q ⟨g, st, env, s, e, h⟩ => tv_of s e h fun g1 H1 st1 x v e1 s1 en1 r1 h1 => tv_of s1 en1 h1 fun g2 H2 st2 y u e2 s2 en2 r2 h2 => hs g2 H2 st2 x y v u Q s2 (r1.mono e2) r2 h2⟩
theorem xt_nil : AXT X T E [] mNil := ⟨PAT.of x_nil⟩
theorem xt_cons (ha : EXT X T E e m) (hr : AXT X T E es ms) (hs : starEach (e :: es) X.env = (false, eval e X.env) :: starEach es X.env := by rfl) : AXT X T E (e :: es) (mCons m ms) :=
  ⟨pat_imp (pat_cons ha.go hr.go hs) fun σ H Q ⟨g, st, env, s, e, h⟩ => tv_of s e h fun g1 H1 st1 x v e1 s1 en1 r1 h1 => tl_of s1 en1 h1 fun g2 H2 st2 xs vs e2 s2 en2 r2 h2 => okR.fin h2 s2 (.cons (r1.mono e2) r2)⟩
theorem xt_lstF (h : AXT X T E es ms) : EXT X T E (.List es pos) (mApp sLstF ms) :=
  ⟨pet_imp (pet_lst h.go) fun σ H Q ⟨g, st, env, s, e, h⟩ => tl_of s e h fun g1 H1 st1 xs vs e1 s1 en1 r1 h1 => by
    simp only [sLstF] at h1
    split at h1
    · rename_i hf
      exact ⟨by rw [← r1.length]; exact fitL_ok hf, giveF s1 r1 h1⟩
    · exact h1.elim⟩
theorem xt_repC (ho : EXT X T E e m) (hyz : (y == z) = false := by decide)
    (hst : starEach [.Constant (.str y) j c0, .Constant (.str z) k c1] X.env = [(false, eval (.Constant (.str y) j c0) X.env), (false, eval (.Constant (.str z) k c1) X.env)] := by rfl)
    (hbase : attributeBase e "replace" X.env (eval e X.env) = eval e X.env := by rfl) (hline : (apos.endLine == pos.line) = true := by rfl) :
    EXT X T E (.Call (.Attribute e "replace" apos) [.Constant (.str y) j c0, .Constant (.str z) k c1] [] pos) (mRepC y z m) :=
  ⟨pet_imp (CwR.pet_replT ho.go hyz hst hbase hline) fun σ H Q ⟨g, st, env, s, en, h⟩ => tv_of s en h fun g1 H1 st1 x v e1 s1 en1 r1 h1 => by
    split at h1
    · cases r1
      split at h1
      · rename_i hf
        exact ⟨_, rfl, of_decide_eq_true hf, okR.fin h1 s1 (.str _)⟩
      · exact h1.elim
    · exact h1.elim⟩
theorem xt_rep1 (ho : EXT X T E e m) (hyz : (y == z) = false := by decide)
    (hst : starEach [.Constant (.str y) j c0, .Constant (.str z) k c1, .Constant (.int 1) l c2] X.env = [(false, eval (.Constant (.str y) j c0) X.env), (false, eval (.Constant (.str z) k c1) X.env), (false, eval (.Constant (.int 1) l c2) X.env)] := by rfl)
    (hbase : attributeBase e "replace" X.env (eval e X.env) = eval e X.env := by rfl) (hline : (apos.endLine == pos.line) = true := by rfl) :
    EXT X T E (.Call (.Attribute e "replace" apos) [.Constant (.str y) j c0, .Constant (.str z) k c1, .Constant (.int 1) l c2] [] pos) (mRep1 y z m) :=
  ⟨pet_imp (pet_rep1 ho.go hyz hst hbase hline) fun σ H Q ⟨g, st, env, s, en, h⟩ => tv_of s en h fun g1 H1 st1 x v e1 s1 en1 r1 h1 => by
    split at h1
    · cases r1
      split at h1
      · rename_i hf
        exact ⟨_, rfl, of_decide_eq_true hf, okR.fin h1 s1 (.str _)⟩
      · exact h1.elim
    · exact h1.elim⟩
theorem st_of (h : SX X T E st u) : SXT X T E st u := ⟨PST.of h⟩
theorem st_set {i : Nat} {x : Str} {pos' : Pos} (hN : X.N.Nodup) (hi : X.N[i]? = some x) (hx : Loc X.env.scope x) (he : EXT X T E e m) (hs : swapsWith e (some (.Name x pos')) pos.line X.env = pure false := by rfl)
    (hf : X.fn x = true ∨ X.env.scope.names.lookup x = some .local := by first | exact .inl rfl | exact .inr rfl) : SXT X T E (.Assign [.Name x pos'] e pos) (cSet (.one i) m) := ⟨fun pins s σ H D h0 I h =>
  pst_setT hN hi hx he.go hs hf pins s σ H D h0 I (set_core rfl h)⟩
theorem seq_core {D : Ends} {σ : L2.St} {H : Hp} (h : TSt T X.K E (cSeq u v) D σ H) : tSeq (TSt T X.K E u) (TSt T X.K E v) D σ H := by
  obtain ⟨g, st, env, s, en, h⟩ := h
  refine ⟨g, st, env, s, en, ?_⟩
  simp only [cSeq] at h
  cases q : u env st with
  | nx e s' => rw [q] at h; exact fun g' H' σ' e1 s1 en1 => ⟨g', s', e, s1, en1, okS.ext h e1⟩
  | rt x s' => rw [q] at h; exact h
  | bk e s' => rw [q] at h; exact h
  | ct e s' => rw [q] at h; exact h
  | exc n fs s' => rw [q] at h; exact h
  | bad => rw [q] at h; exact h
theorem st_cons (h1 : SXT X T E st u) (h2 : SXsT X T E rest v) : SXsT X T E (st :: rest) (cSeq u v) := ⟨fun pins s σ H D h0 I h =>
  psst_cons h1.go h2.go pins s σ H D h0 I (seq_core h)⟩
theorem sts_of (h : SXs X T E rest u) : SXsT X T E rest u := ⟨PSsT.of h⟩
theorem k_lst {c : Str} (ha : AX X T E es ms) (hs : starEach (.Constant (.str c) j c0 :: es) X.env = (false, eval (.Constant (.str c) j c0) X.env) :: starEach es X.env := by rfl) : EXK X T E (.List (.Constant (.str c) j c0 :: es) pos) (mApp sLstF (mCons (mC (.str c)) ms)) :=
  ⟨pek_imp (pek_lst ha hs) fun σ H Q ⟨g, st, env, s, e, h⟩ => by
    have h' : okR T X.K (rV X.K) g H ((ms env st).bind fun xs s2 => sLstF (.str c :: xs) s2) Q E := by
      have e : mApp sLstF (mCons (mC (.str c)) ms) env st = (ms env st).bind fun xs s2 => sLstF (.str c :: xs) s2 := by
        unfold mApp mCons mC
        simp only [Res.bind_ok]
        cases ms env st <;> rfl
      rw [e] at h
      exact h
    exact tl_of s e h' fun g1 H1 st1 xs vs e1 s1 en1 r1 h1 => by
      have r2 : RVL X.K g1 H1 (.str c :: xs) (V.str c :: vs) := .cons (.str c) r1
      simp only [sLstF] at h1
      split at h1
      · rename_i hf
        exact ⟨by rw [← r2.length]; exact fitL_ok hf, giveF s1 r2 h1⟩
      · exact h1.elim⟩
theorem k_ix {r : R2} {f : Se2} (ho : IxR X r) (hs : S2 T X.K E r f) (ha : EXK X T E a ma) (hb : EX X T E b mb) (hx : PlainIx b) : EXK X T E (.Subscript a b pos) (mBin f ma mb) :=
  ⟨pek_imp (pek_ix ho ha.go hb hx) fun σ H Q ⟨g, st, env, s, e, h⟩ => tv_of s e h fun g1 H1 st1 x v e1 s1 en1 r1 h1 => tv_of s1 en1 h1 fun g2 H2 st2 y u e2 s2 en2 r2 h2 => hs g2 H2 st2 x y v u Q s2 (r1.mono e2) r2 h2⟩
theorem s_setK {i : Nat} {x : Str} {pos' : Pos} (hN : X.N.Nodup) (hi : X.N[i]? = some x) (hx : Loc X.env.scope x) (he : EXK X T E e m) (h2 : SXsT X T E rest v) (hs : swapsWith e (some (.Name x pos')) pos.line X.env = pure false := by rfl)
    (hf : X.fn x = true ∨ X.env.scope.names.lookup x = some .local := by first | exact .inl rfl | exact .inr rfl) : SXs X T E (.Assign [.Name x pos'] e pos :: rest) (cSeq (cSet (.one i) m) v) := by
  refine pss_imp (pss_setK hN hi hx he.go h2.go hs hf) fun D σ H h => ?_
  have h := seq_core h
  exact set_core (D := { D with nx := TSt T X.K E v D }) rfl h
end
end Sim
set_option Elab.async false
set_option linter.all false
set_option maxRecDepth 100000
set_option maxHeartbeats 4000000
/-! a text times a great number -/
namespace Sim
open PySem PySem.Spec PyProof.Rows L2
variable [Tb] [Lm]
def sMulS2 : Se2 := fun x y st => match x, y with
  | .str z, .int n => if decide (2 ≤ n) && (decide (n ≤ 10000) && (decide (1 ≤ z.length) && (decide (z.length ≤ 100) && decide ((repS z n).length ≤ 1000000)))) then .ok (.str (repS z n)) st else .bad
  | _, _ => .bad
def rMulS2 : R2 := fun x y H Q => ∃ z n, x = .str z ∧ y = .int n ∧ 2 ≤ n ∧ n ≤ 10000 ∧ 1 ≤ z.length ∧ z.length ≤ 100 ∧ (repS z n).length ≤ 1000000 ∧ Q (.str (repS z n)) H
theorem op_mulS2 {X : Cx} : OpR X (binaryOp .Mult) rMulS2 := by
  intro pp s σ H x y v u Q I rx ry h0
  obtain ⟨z, n, rfl, rfl, n1, n2, z1, z2, hz, q⟩ := h0
  obtain ⟨t, rfl⟩ := rx
  obtain ⟨tk, rfl⟩ := ry
  have d0 : (decide (n < -(2 ^ 63 : Int)) || decide (n ≥ 2 ^ 63)) = false := by
    rw [decide_eq_false (by omega), decide_eq_false (by omega)]; rfl
  have ne : (n == 1 || z.length == 0) = false := by
    have a : (n == 1) = false := beq_eq_false_iff_ne.mpr (by omega)
    have b : (z.length == 0) = false := beq_eq_false_iff_ne.mpr (by omega)
    rw [a, b]; rfl
  refine PySem.P.mul_str d0 (fun _ _ hgt => ?_) (fun _ _ => ?_) ?_
  · have h1 : 100 ≤ (2 ^ 63 - 1) / n := Int.le_ediv_of_mul_le (by omega) (by omega)
    omega
  · have : z.length * n.toNat ≤ 100 * 10000 := Nat.mul_le_mul z2 (by omega)
    exact PyProof.Rows.short24 (by omega)
  · rw [if_neg (by omega), if_neg (by rw [ne]; simp)]
    exact ⟨by have : (repS z n).length ≤ 1000000 := hz; rw [sizeLine_eq]; show (repS z n).length ≤ _; omega, .str (repS z n), H, I.tok _, ⟨_, rfl⟩, q⟩
theorem s_mulS2 {T : String → Value} {K : PySem.W.Frag} {E : XK} : S2 T K E rMulS2 sMulS2 := by
  intro g H st x y v u Q s r1 r2 h
  unfold sMulS2 at h
  split at h
  · cases r1; cases r2
    split at h
    · rename_i hf
      simp only [Bool.and_eq_true, decide_eq_true_eq] at hf
      exact ⟨_, _, rfl, rfl, hf.1, hf.2.1, hf.2.2.1, hf.2.2.2.1, hf.2.2.2.2, okR.fin h s (.str _)⟩
    · exact h.elim
  · exact h.elim
end Sim
set_option Elab.async false
noncomputable section
namespace Pg
open PySem Sim
def m__law_mixed : MS := (cSeq (cSet (.one 2) (mBin sMod (mApp sInt (mCons (mBin sAdd (mBin sAdd (mBin sMul (mBin sMod (mApp sInt (mCons (mVar 0) mNil)) (mC (.int 2147483647))) (mC (.int 48271))) (mBin sMul (mVar 1) (mC (.int 69621)))) (mC (.int 1048583))) mNil)) (mC (.int 2147483629))))
  (cSeq (cSet (.one 2) (mBin sMod (mApp sInt (mCons (mBin sMul (mVar 2) (mVar 2)) mNil)) (mC (.int 2147483587))))
  (cRet (mBin sMod (mApp sInt (mCons (mBin sMul (mVar 2) (mBin sAdd (mVar 2) (mC (.int 2)))) mNil)) (mC (.int 2147483579))))))
def f__law_mixed : MF := defM 3 m__law_mixed
def m__law_cell : MS := (cSeq (cSet (.one 2) (mC (.int 0)))
  (cSeq (cIf (bVal (mBin sLt (mVar 1) (mApp sLen (mCons (mVar 0) mNil))))
  (cSet (.one 2) (mBin sIx (mVar 0) (mVar 1)))
  cNil)
  (cSeq (cIf (bVal (mBin sGe (mVar 2) (mBin sPow (mC (.int 10)) (mC (.int 18)))))
  (cRet (mBin sMod (mApp sInt (mCons (mBin sSub (mVar 2) (mBin sPow (mC (.int 10)) (mC (.int 18)))) mNil)) (mBin sMul (mBin sMul (mBin sMul (mBin sPow (mC (.int 10)) (mC (.int 60))) (mBin sPow (mC (.int 10)) (mC (.int 60)))) (mBin sPow (mC (.int 10)) (mC (.int 60)))) (mBin sPow (mC (.int 10)) (mC (.int 60))))))
  cNil)
  (cSeq (cSet (.one 3) (mC (.int 0)))
  (cSeq (cFor (mRange1 (mC (.int 24))) (.one 4)
  (cSet (.one 3) (mBin sAdd (mBin sMul (mVar 3) (mC (.int 2147483579))) (mApp (fnN 2 f__law_mixed) (mCons (mVar 2) (mCons (mBin sAdd (mBin sAdd (mBin sMul (mC (.int 7)) (mVar 1)) (mBin sMul (mC (.int 100)) (mVar 4))) (mBin sMul (mVar 4) (mVar 4))) mNil))))))
  (cRet (mVar 3)))))))
def f__law_cell : MF := defM 5 m__law_cell
def m__law_take : MS := (cSeq (cSet (.one 2) (mBin sMod (mApp sInt (mCons (mBin sIx (mVar 0) (mC (.int 0))) mNil)) (mVar 1)))
  (cSeq (cSetIx (mVar 0) (mC (.int 0)) (mBin sDiv (mBin sIx (mVar 0) (mC (.int 0))) (mVar 1)))
  (cRet (mVar 2))))
def f__law_take : MF := defM 3 m__law_take
def m_is_tuple : MS := (cRet (mAnd (mApp sIsi (mCons (mVar 0) (mCons (mC (.raw (.ty "tuple"))) mNil))) (mChain sLe sLe (mVar 1) (mApp sLen (mCons (mVar 0) mNil)) (mVar 2))))
def f_is_tuple : MF := defM 3 m_is_tuple
def v_MOST_OBJECTS : PV := .int 30
def v_MOST_LETTERS : PV := .int 8
def m_is_word : MS := (cSeq (cIf (bOr (bNot (bVal (mApp sIsi (mCons (mVar 0) (mCons (mC (.raw (.ty "str"))) mNil))))) (bNot (bVal (mChain sLe sLe (mC (.int 1)) (mApp sLen (mCons (mVar 0) mNil)) (mC v_MOST_LETTERS)))))
  (cRet (mC (.bl false)))
  cNil)
  (cRet (mApp sAll (mCons (mLc (mIter (mVar 0)) (.one 1) bYes (mChain sLe sLe (mC (.str "a")) (mVar 1) (mC (.str "z"))) [1]) mNil))))
def f_is_word : MF := defM 2 m_is_word
def m_words_of : MS := (cRet (mLc (mIter (mVar 0)) (.one 1) bYes (mBin sIx (mVar 1) (mC (.int 0))) [1]))
def f_words_of : MF := defM 2 m_words_of
def m_is_table : MS := (cSeq (cIf (bNot (bVal (mApp (fnN 3 f_is_tuple) (mCons (mVar 0) (mCons (mVar 1) (mCons (mVar 2) mNil))))))
  (cRet (mC (.bl false)))
  cNil)
  (cSeq (cIf (bNot (bVal (mApp sAll (mCons (mLc (mIter (mVar 0)) (.one 4) bYes (mAnd (mApp (fnN 3 f_is_tuple) (mCons (mVar 4) (mCons (mC (.int 2)) (mCons (mC (.int 2)) mNil)))) (mApp (fnN 1 f_is_word) (mCons (mBin sIx (mVar 4) (mC (.int 0))) mNil))) [4]) mNil))))
  (cRet (mC (.bl false)))
  cNil)
  (cSeq (cSet (.one 3) (mApp (fnN 1 f_words_of) (mCons (mVar 0) mNil)))
  (cRet (mBin sEq (mVar 3) (mUn sSortSet (mVar 3)))))))
def f_is_table : MF := defM 5 m_is_table
def v_MOST_NAMES : PV := .int 6
def v_LEAST_INT : PV := .int (-999999999)
def v_MOST_INT : PV := .int 999999999
def m_is_int : MS := (cRet (mAnd (mApp sIsi (mCons (mVar 0) (mCons (mC (.raw (.ty "int"))) mNil))) (mAnd (mNot (mApp sIsi (mCons (mVar 0) (mCons (mC (.raw (.ty "bool"))) mNil)))) (mChain sLe sLe (mC v_LEAST_INT) (mVar 0) (mC v_MOST_INT)))))
def f_is_int : MF := defM 1 m_is_int
def m_is_number : MS := (cRet (mAnd (mApp (fnN 1 f_is_int) (mCons (mVar 0) mNil)) (mChain sLe sLt (mC (.int 0)) (mVar 0) (mVar 1))))
def f_is_number : MF := defM 2 m_is_number
def m_is_names : MS := (cRet (mAnd (mApp (fnN 3 f_is_table) (mCons (mVar 0) (mCons (mC (.int 1)) (mCons (mC v_MOST_NAMES) mNil)))) (mApp sAll (mCons (mLc (mIter (mVar 0)) (.one 2) bYes (mApp (fnN 2 f_is_number) (mCons (mBin sIx (mVar 2) (mC (.int 1))) (mCons (mVar 1) mNil))) [2]) mNil))))
def f_is_names : MF := defM 3 m_is_names
def v_KINDS : PV := .tup [.str "open", .str "frozen"]
def v_MOST_FIELDS : PV := .int 4
def m_is_field_value : MS := (cRet (mOr (mApp (fnN 1 f_is_int) (mCons (mVar 0) mNil)) (mAnd (mApp (fnN 3 f_is_tuple) (mCons (mVar 0) (mCons (mC (.int 1)) (mCons (mC (.int 1)) mNil)))) (mApp (fnN 2 f_is_number) (mCons (mBin sIx (mVar 0) (mC (.int 0))) (mCons (mVar 1) mNil))))))
def f_is_field_value : MF := defM 2 m_is_field_value
def m_is_object : MS := (cSeq (cIf (bOr (bNot (bVal (mApp (fnN 3 f_is_tuple) (mCons (mVar 0) (mCons (mC (.int 2)) (mCons (mC (.int 2)) mNil)))))) (bVal (mBin (sInn true) (mBin sIx (mVar 0) (mC (.int 0))) (mC v_KINDS))))
  (cRet (mC (.bl false)))
  cNil)
  (cSeq (cSet (.one 2) (mBin sIx (mVar 0) (mC (.int 1))))
  (cRet (mAnd (mApp (fnN 3 f_is_table) (mCons (mVar 2) (mCons (mC (.int 0)) (mCons (mC v_MOST_FIELDS) mNil)))) (mApp sAll (mCons (mLc (mIter (mVar 2)) (.one 3) bYes (mApp (fnN 2 f_is_field_value) (mCons (mBin sIx (mVar 3) (mC (.int 1))) (mCons (mVar 1) mNil))) [3]) mNil))))))
def f_is_object : MF := defM 4 m_is_object
def m_is_web : MS := (cSeq (cIf (bOr (bNot (bVal (mApp (fnN 3 f_is_tuple) (mCons (mVar 0) (mCons (mC (.int 2)) (mCons (mC (.int 2)) mNil)))))) (bNot (bVal (mApp (fnN 3 f_is_tuple) (mCons (mBin sIx (mVar 0) (mC (.int 0))) (mCons (mC (.int 1)) (mCons (mC v_MOST_OBJECTS) mNil)))))))
  (cRet (mC (.bl false)))
  cNil)
  (cSeq (cSet (.many [2, 3]) (mVar 0))
  (cSeq (cSet (.one 1) (mApp sLen (mCons (mVar 2) mNil)))
  (cRet (mAnd (mApp (fnN 2 f_is_names) (mCons (mVar 3) (mCons (mVar 1) mNil))) (mApp sAll (mCons (mLc (mIter (mVar 2)) (.one 4) bYes (mApp (fnN 2 f_is_object) (mCons (mVar 4) (mCons (mVar 1) mNil))) [4]) mNil)))))))
def f_is_web : MF := defM 5 m_is_web
def m_check_web_2 : MS := (cIf (bNot (bVal (mApp (fnN 1 f_is_web) (mCons (mVar 0) mNil))))
  (cRaise "InvalidWeb")
  cNil)
def f_check_web_2 : MF := defX 1 m_check_web_2
def m__law_fields_2 : MS := (cSeq (cSet (.one 2) (mLc (mIter (mApp sLstF (mCons (mC (.str "a")) (mCons (mC (.str "f")) (mCons (mC (.str "fg")) (mCons (mC (.str "longname")) mNil)))))) (.one 4) (bVal (mBin sGt (mApp (fnN 2 f__law_take) (mCons (mVar 0) (mCons (mC (.int 3)) mNil))) (mC (.int 0)))) (mVar 4) [4]))
  (cSeq (cSet (.one 3) (mApp sLstM mNil))
  (cSeq (cFor (mIter (mVar 2)) (.one 4)
  (cSeq (cSet (.one 5) (mApp (fnN 2 f__law_take) (mCons (mVar 0) (mCons (mC (.int 3)) mNil))))
  (cSeq (cIf (bVal (mBin sEq (mApp (fnN 2 f__law_take) (mCons (mVar 0) (mCons (mC (.int 2)) mNil))) (mC (.int 0))))
  (cSet (.one 5) (mApp sTup (mCons (mApp (fnN 2 f__law_take) (mCons (mVar 0) (mCons (mVar 1) mNil))) mNil)))
  (cIf (bVal (mBin sEq (mApp (fnN 2 f__law_take) (mCons (mVar 0) (mCons (mC (.int 4)) mNil))) (mC (.int 0))))
  (cSet (.one 5) (mBin sSub (mApp (fnN 2 f__law_take) (mCons (mVar 0) (mCons (mBin sSub (mBin sMul (mC (.int 2)) (mBin sPow (mC (.int 10)) (mC (.int 9)))) (mC (.int 1))) mNil))) (mC (.int 999999999))))
  cNil))
  (cExpr (mAppend (mVar 3) (mApp sTup (mCons (mVar 4) (mCons (mVar 5) mNil))))))))
  (cRet (mApp sTuple (mCons (mVar 3) mNil))))))
def f__law_fields_2 : MF := defM 6 m__law_fields_2
def m__law_web_2 : MS := (cSeq (cSet (.one 2) (mBin sAdd (mC (.int 1)) (mApp (fnN 2 f__law_take) (mCons (mVar 0) (mCons (mVar 1) mNil)))))
  (cSeq (cSet (.one 3) (mApp sLstM mNil))
  (cSeq (cFor (mRange1 (mVar 2)) (.one 4)
  (cSeq (cSet (.one 6) (mBin sIx (mApp sLstF (mCons (mC (.str "open")) (mCons (mC (.str "frozen")) mNil))) (mApp sMin2 (mCons (mApp (fnN 2 f__law_take) (mCons (mVar 0) (mCons (mC (.int 3)) mNil))) (mCons (mC (.int 1)) mNil)))))
  (cExpr (mAppend (mVar 3) (mApp sTup (mCons (mVar 6) (mCons (mApp (fnN 2 f__law_fields_2) (mCons (mVar 0) (mCons (mVar 2) mNil))) mNil)))))))
  (cSeq (cFor (mRange1 (mApp (fnN 2 f__law_take) (mCons (mVar 0) (mCons (mC (.int 3)) mNil)))) (.one 4)
  (cSetIx (mVar 3) (mApp (fnN 2 f__law_take) (mCons (mVar 0) (mCons (mVar 2) mNil))) (mBin sIx (mVar 3) (mApp (fnN 2 f__law_take) (mCons (mVar 0) (mCons (mVar 2) mNil))))))
  (cSeq (cSet (.one 5) (mSlice (mApp sLstF (mCons (mC (.str "a")) (mCons (mC (.str "ab")) (mCons (mC (.str "b")) (mCons (mC (.str "f")) (mCons (mC (.str "namename")) (mCons (mC (.str "y")) mNil))))))) oNone (oSome (mBin sAdd (mC (.int 1)) (mApp (fnN 2 f__law_take) (mCons (mVar 0) (mCons (mC (.int 6)) mNil)))))))
  (cRet (mApp sTup (mCons (mApp sTuple (mCons (mVar 3) mNil)) (mCons (mApp sTuple (mCons (mLc (mIter (mVar 5)) (.one 7) bYes (mApp sTup (mCons (mVar 7) (mCons (mApp (fnN 2 f__law_take) (mCons (mVar 0) (mCons (mVar 2) mNil))) mNil))) [7]) mNil)) mNil)))))))))
def f__law_web_2 : MF := defM 8 m__law_web_2
def v_MOST_SIGNS : PV := .int 3000
def m_text_of_pair : MS := (cSeq (cIf (bVal (mApp sIsi (mCons (mVar 1) (mCons (mC (.raw (.ty "tuple"))) mNil))))
  (cRet (mBin sAdd (mBin sAdd (mVar 0) (mC (.str "=#"))) (mApp sStr (mCons (mBin sIx (mVar 1) (mC (.int 0))) mNil))))
  cNil)
  (cRet (mBin sAdd (mBin sAdd (mVar 0) (mC (.str "="))) (mApp sStr (mCons (mVar 1) mNil)))))
def f_text_of_pair : MF := defM 2 m_text_of_pair
def m_text_of_pairs : MS := (cRet (mLc (mIter (mVar 0)) (.many [1, 2]) bYes (mApp (fnN 2 f_text_of_pair) (mCons (mVar 1) (mCons (mVar 2) mNil))) [1, 2]))
def f_text_of_pairs : MF := defM 3 m_text_of_pairs
def m_text_of : MS := (cSeq (cSet (.many [2, 3]) (mVar 0))
  (cSeq (cSet (.one 1) (mApp sLstM (mCons (mJoin (mC (.str " ")) (mApp (fnN 1 f_text_of_pairs) (mCons (mVar 3) mNil))) mNil)))
  (cSeq (cExpr (mExtend (mVar 1) (mLc (mIter (mVar 2)) (.many [4, 5]) bYes (mJoin (mC (.str " ")) (mBin sAdd (mApp sLstF (mCons (mVar 4) mNil)) (mApp (fnN 1 f_text_of_pairs) (mCons (mVar 5) mNil)))) [4, 5])))
  (cRet (mJoin (mC (.str "\n")) (mVar 1))))))
def f_text_of : MF := defM 6 m_text_of
def m_int_in : MS := (cSeq (cSet (.one 1) (mM1 sRmPre (mVar 0) (mC (.str "-"))))
  (cSeq (cIf (bNot (bVal (mChain sLe sLe (mC (.int 1)) (mApp sLen (mCons (mVar 1) mNil)) (mApp sLen (mCons (mApp sStr (mCons (mC v_MOST_INT) mNil)) mNil)))))
  (cRet (mC .non))
  cNil)
  (cSeq (cIf (bNot (bVal (mApp sAll (mCons (mLc (mIter (mVar 1)) (.one 2) bYes (mChain sLe sLe (mC (.str "0")) (mVar 2) (mC (.str "9"))) [2]) mNil))))
  (cRet (mC .non))
  cNil)
  (cRet (mApp sIntS (mCons (mVar 0) mNil))))))
def f_int_in : MF := defM 3 m_int_in
def m_pair_in : MS := (cSeq (cSet (.many [1, 2, 3]) (mM1 sPart (mVar 0) (mC (.str "="))))
  (cSeq (cIf (bVal (mM1 sStarts (mVar 3) (mC (.str "#"))))
  (cRet (mApp sTup (mCons (mVar 1) (mCons (mApp sTup (mCons (mApp (fnN 1 f_int_in) (mCons (mSliceS (mVar 3) (oSome (mC (.int 1))) oNone) mNil)) mNil)) mNil))))
  cNil)
  (cRet (mApp sTup (mCons (mVar 1) (mCons (mApp (fnN 1 f_int_in) (mCons (mVar 3) mNil)) mNil))))))
def f_pair_in : MF := defM 4 m_pair_in
def m_pairs_in : MS := (cRet (mApp sTuple (mCons (mLc (mIter (mVar 0)) (.one 1) bYes (mApp (fnN 1 f_pair_in) (mCons (mVar 1) mNil)) [1]) mNil)))
def f_pairs_in : MF := defM 2 m_pairs_in
def m_object_in : MS := (cSeq (cSet (.one 1) (mM1 sSplit (mVar 0) (mC (.str " "))))
  (cRet (mApp sTup (mCons (mBin sIx (mVar 1) (mC (.int 0))) (mCons (mApp (fnN 1 f_pairs_in) (mCons (mSlice (mVar 1) (oSome (mC (.int 1))) oNone) mNil)) mNil)))))
def f_object_in : MF := defM 2 m_object_in
def m_write : MS := (cSeq (cExpr (mApp (fnN 1 f_check_web_2) (mCons (mVar 0) mNil)))
  (cNox (cRet (mApp (fnN 1 f_text_of) (mCons (mVar 0) mNil)))))
def f_write : MF := defX 1 m_write
def m_read : MS := (cSeq (cIf (bOr (bNot (bVal (mApp sIsi (mCons (mVar 0) (mCons (mC (.raw (.ty "str"))) mNil))))) (bVal (mBin sGt (mApp sLen (mCons (mVar 0) mNil)) (mC v_MOST_SIGNS))))
  (cRaise "InvalidText")
  cNil)
  (cSeq (cSet (.one 1) (mM1 sSplit (mVar 0) (mC (.str "\n"))))
  (cSeq (cSet (.one 2) (mApp sTup (mCons (mApp sTuple (mCons (mLc (mIter (mSlice (mVar 1) (oSome (mC (.int 1))) oNone)) (.one 3) bYes (mApp (fnN 1 f_object_in) (mCons (mVar 3) mNil)) [3]) mNil)) (mCons (mApp (fnN 1 f_pairs_in) (mCons (mM1 sSplit (mBin sIx (mVar 1) (mC (.int 0))) (mC (.str " "))) mNil)) mNil))))
  (cSeq (cIf (bOr (bNot (bVal (mApp (fnN 1 f_is_web) (mCons (mVar 2) mNil)))) (bVal (mBin sNe (mApp (fnN 1 f_text_of) (mCons (mVar 2) mNil)) (mVar 0))))
  (cRaise "InvalidText")
  cNil)
  (cNox (cRet (mVar 2)))))))
def f_read : MF := defX 4 m_read
def m_check_web__N : MS := (cIf (bNot (bVal (mApp (fnN 1 f_is_web) (mCons (mVar 0) mNil))))
  cBad
  cNil)
def f_check_web__N : MF := defM 1 m_check_web__N
def m_write__N : MS := (cSeq (cExpr (mApp (fnN 1 f_check_web__N) (mCons (mVar 0) mNil)))
  (cRet (mApp (fnN 1 f_text_of) (mCons (mVar 0) mNil))))
def f_write__N : MF := defM 1 m_write__N
def m_read__N : MS := (cSeq (cIf (bOr (bNot (bVal (mApp sIsi (mCons (mVar 0) (mCons (mC (.raw (.ty "str"))) mNil))))) (bVal (mBin sGt (mApp sLen (mCons (mVar 0) mNil)) (mC v_MOST_SIGNS))))
  cBad
  cNil)
  (cSeq (cSet (.one 1) (mM1 sSplit (mVar 0) (mC (.str "\n"))))
  (cSeq (cSet (.one 2) (mApp sTup (mCons (mApp sTuple (mCons (mLc (mIter (mSlice (mVar 1) (oSome (mC (.int 1))) oNone)) (.one 3) bYes (mApp (fnN 1 f_object_in) (mCons (mVar 3) mNil)) [3]) mNil)) (mCons (mApp (fnN 1 f_pairs_in) (mCons (mM1 sSplit (mBin sIx (mVar 1) (mC (.int 0))) (mC (.str " "))) mNil)) mNil))))
  (cSeq (cIf (bOr (bNot (bVal (mApp (fnN 1 f_is_web) (mCons (mVar 2) mNil)))) (bVal (mBin sNe (mApp (fnN 1 f_text_of) (mCons (mVar 2) mNil)) (mVar 0))))
  cBad
  cNil)
  (cRet (mVar 2))))))
def f_read__N : MF := defM 4 m_read__N
def m__law_text : MS := (cSeq (cSet (.one 1) (mApp sLstM (mCons (mJoin (mC (.str " ")) (mLc (mIter (mBin sIx (mVar 0) (mC (.int 1)))) (.many [5, 7]) bYes (mBin sAdd (mBin sAdd (mVar 5) (mC (.str "="))) (mApp sStr (mCons (mVar 7) mNil))) [5, 7])) mNil)))
  (cSeq (cFor (mIter (mBin sIx (mVar 0) (mC (.int 0)))) (.many [2, 3])
  (cSeq (cSet (.one 4) (mApp sLstM (mCons (mVar 2) mNil)))
  (cSeq (cFor (mIter (mVar 3)) (.many [5, 6])
  (cExpr (mAppend (mVar 4) (mBin sAdd (mBin sAdd (mVar 5) (mC (.str "="))) (mIf (bVal (mApp sIsi (mCons (mVar 6) (mCons (mC (.raw (.ty "tuple"))) mNil)))) (mBin sAdd (mC (.str "#")) (mApp sStr (mCons (mBin sIx (mVar 6) (mC (.int 0))) mNil))) (mApp sStr (mCons (mVar 6) mNil)))))))
  (cExpr (mAppend (mVar 1) (mJoin (mC (.str " ")) (mVar 4)))))))
  (cRet (mJoin (mC (.str "\n")) (mVar 1)))))
def f__law_text : MF := defM 8 m__law_text
def m__law_read : MS := (cTryV ["InvalidText"] (mAppO (fnN 1 f_read) (mCons (mVar 0) mNil)) (mC .non))
def f__law_read : MF := defM 1 m__law_read
def m__law_bent_4 : MS := (cSeq (cSet (.one 2) (mApp (fnN 2 f__law_take) (mCons (mVar 0) (mCons (mBin sAdd (mApp sLen (mCons (mVar 1) mNil)) (mC (.int 1))) mNil))))
  (cSeq (cSet (.one 3) (mBin sIx (mApp sLstF (mCons (mC (.str "")) (mCons (mC (.str " ")) (mCons (mC (.str "\n")) (mCons (mC (.str "=")) (mCons (mC (.str "#")) (mCons (mC (.str "0")) (mCons (mC (.str "-")) (mCons (mC (.str "a")) (mCons (mC (.str "1")) (mCons (mBin sMulS (mC (.str "9")) (mC (.int 9))) (mCons (mC (.str "open")) (mCons (mC (.str "+")) (mCons (mC (.str "_")) (mCons (mC (.str "\t")) mNil))))))))))))))) (mApp (fnN 2 f__law_take) (mCons (mVar 0) (mCons (mC (.int 14)) mNil)))))
  (cSeq (cSet (.one 4) (mApp sLstF (mCons (mBin sAdd (mBin sAdd (mSliceS (mVar 1) oNone (oSome (mVar 2))) (mVar 3)) (mSliceS (mVar 1) (oSome (mVar 2)) oNone)) (mCons (mBin sAdd (mBin sAdd (mSliceS (mVar 1) oNone (oSome (mVar 2))) (mVar 3)) (mSliceS (mVar 1) (oSome (mBin sAdd (mVar 2) (mC (.int 1)))) oNone)) (mCons (mBin sAdd (mSliceS (mVar 1) (oSome (mVar 2)) oNone) (mSliceS (mVar 1) oNone (oSome (mVar 2)))) mNil)))))
  (cSeq (cSet (.one 4) (mBin sAdd (mVar 4) (mApp sLstF (mCons (mBin sAdd (mVar 1) (mVar 3)) (mCons (mSliceS (mVar 1) oNone (oSome (mVar 2))) (mCons (mRep1 "#" "" (mVar 1)) (mCons (mRepC "open" "frozen" (mVar 1)) mNil)))))))
  (cRet (mBin sIx (mBin sAdd (mVar 4) (mApp sLstF (mCons (mUp (mVar 1)) mNil))) (mApp (fnN 2 f__law_take) (mCons (mVar 0) (mCons (mC (.int 8)) mNil)))))))))
def f__law_bent_4 : MF := defM 5 m__law_bent_4
def m__law_refused : MS := (cTryF ["InvalidWeb"] (mAppO (fnN 1 f_write) (mCons (mVar 0) mNil)) false (mC (.bl true)))
def f__law_refused : MF := defM 1 m__law_refused
def m__law_letters_good : MS := (cSeq (cFor (mIter (mApp sLstF (mCons (mC (.int 15)) (mCons (mC (.int 22)) (mCons (mC (.int 29)) mNil))))) (.one 0)
  (cSeq (cSet (.one 3) (mLc (mRange1 (mVar 0)) (.one 5) bYes (mApp sTup (mCons (mC (.str "open")) (mCons (mApp sTup (mCons (mApp sTup (mCons (mC (.str "ijkqy")) (mCons (mApp sTup (mCons (mBin sSub (mBin sSub (mVar 0) (mC (.int 1))) (mVar 5)) mNil)) mNil))) (mCons (mApp sTup (mCons (mC (.str "stuvwx")) (mCons (mVar 5) mNil))) mNil))) mNil))) [5]))
  (cSeq (cSet (.one 4) (mApp sTup (mCons (mApp sTuple (mCons (mVar 3) mNil)) (mCons (mApp sTup (mCons (mApp sTup (mCons (mC (.str "hgmnopr")) (mCons (mC (.int 0)) mNil))) (mCons (mApp sTup (mCons (mC (.str "lcde")) (mCons (mBin sSub (mVar 0) (mC (.int 1))) mNil))) mNil))) mNil))))
  (cIf (bOr (bVal (mBin sNe (mApp (fnN 1 f_write__N) (mCons (mVar 4) mNil)) (mApp (fnN 1 f__law_text) (mCons (mVar 4) mNil)))) (bVal (mBin sNe (mApp (fnN 1 f_read__N) (mCons (mApp (fnN 1 f__law_text) (mCons (mVar 4) mNil)) mNil)) (mVar 4))))
  (cRet (mC (.bl false)))
  cNil))))
  (cSeq (cSet (.one 1) (mApp sLstF (mCons (mC (.str "a=0 a=0 b=0\nopen")) (mCons (mC (.str "b=0 a=0 c=0\nopen")) (mCons (mC (.str "A=0 b=0\nopen")) (mCons (mC (.str "a=0\nopen A=1 b=1")) mNil))))))
  (cSeq (cSet (.one 1) (mBin sAdd (mVar 1) (mApp sLstF (mCons (mC (.str "a=0\nopen b=1 a=1 c=1")) mNil))))
  (cSeq (cFor (mIter (mVar 1)) (.one 2)
  (cIf (bVal (mBin (sIsn true) (mApp (fnN 1 f__law_read) (mCons (mVar 2) mNil)) (mC .non)))
  (cRet (mC (.bl false)))
  cNil))
  (cRet (mC (.bl true)))))))
def f__law_letters_good : MF := defM 6 m__law_letters_good
def m__law_fixed_good : MS := (cSeq (cSet (.one 0) (mApp sLstM (mCons (mC (.str "f=01")) (mCons (mC (.str "f=-0")) (mCons (mC (.str "f=#1")) (mCons (mC (.str "f=#-1")) (mCons (mC (.str "f=")) (mCons (mC (.str "f")) (mCons (mC (.str "f=1 f=2")) (mCons (mC (.str "g=1 f=1")) (mCons (mC (.str "f=1234567890")) mNil)))))))))))
  (cSeq (cSet (.one 0) (mBin sAddM (mVar 0) (mApp sLstF (mCons (mC (.str "f=#00")) (mCons (mC (.str "F=1")) (mCons (mC (.str "f= 1")) mNil))))))
  (cSeq (cSet (.one 1) (mApp sLstF (mCons (mC .non) (mCons (mC (.bl true)) (mCons (mC (.int 0)) (mCons (mApp sLstF mNil) (mCons (mApp sTup mNil) (mCons (mC (.str "")) (mCons (mC (.str "a=0")) (mCons (mC (.str "a=0\n")) (mCons (mC (.str "a=0\nopen ")) (mCons (mC (.str "a=0\n open")) (mCons (mC (.str "a=00\nopen")) (mCons (mC (.str "a=1\nopen")) mNil))))))))))))))
  (cSeq (cSet (.one 0) (mBin sAddM (mVar 0) (mApp sLstF (mCons (mC (.str "a=1 b=1 c=1 d=1 e=1")) (mCons (mC (.str "abcdefghi=1")) (mCons (mBin sAdd (mC (.str "f=")) (mBin sMulS2 (mC (.str "1")) (mC (.int 5000)))) (mCons (mBin sAdd (mC (.str "f=#")) (mBin sMulS2 (mC (.str "1")) (mC (.int 5000)))) (mCons (mC (.str "f\t=1")) mNil))))))))
  (cSeq (cSet (.one 0) (mBin sAddM (mVar 0) (mApp sLstF (mCons (mC (.str "f=1 f")) (mCons (mC (.str "f=1_0")) (mCons (mC (.str "f=-1_0")) (mCons (mC (.str "f=#1_0")) (mCons (mC (.str "f=1\t")) (mCons (mC (.str "f=#0_0")) (mCons (mC (.str "f=+1")) mNil))))))))))
  (cSeq (cExpr (mAppend (mVar 0) (mBin sAdd (mBin sAdd (mC (.str "f=1\n")) (mBin sMulS (mC (.str "open\n")) (mC (.int 9)))) (mC (.str "open f=#1_0")))))
  (cSeq (cSet (.one 1) (mBin sAdd (mVar 1) (mApp sLstF (mCons (mC (.str "a=0 b=0 c=0 d=0 e=0 f=0 g=0\nopen")) (mCons (mC (.str "abcdefghi=0\nopen")) (mCons (mBin sAdd (mBin sAdd (mC (.str "a=")) (mBin sMulS2 (mC (.str "1")) (mC (.int 5000)))) (mC (.str "\nopen"))) mNil))))))
  (cSeq (cSet (.one 1) (mBin sAdd (mVar 1) (mApp sLstF (mCons (mC (.str "a=0\topen")) (mCons (mC (.str "a=0\nopen\tf=1")) (mCons (mC (.str "a=0\t\nopen")) (mCons (mC (.str "a=1 a=\nopen")) (mCons (mC (.str "a=1 a\nopen")) mNil))))))))
  (cSeq (cSet (.one 1) (mBin sAdd (mVar 1) (mApp sLstF (mCons (mBin sAdd (mC (.str "a=0")) (mBin sMulS (mC (.str "\nopen")) (mC (.int 31)))) mNil))))
  (cSeq (cSet (.one 1) (mBin sAdd (mVar 1) (mApp sLstF (mCons (mC (.str "b=0 a=0\nopen")) (mCons (mC (.str "a=0 a=0\nopen")) (mCons (mC (.str "a=-1\nopen")) (mCons (mC (.str "a=#0\nopen")) (mCons (mC (.str "\nopen")) (mCons (mApp sLstF (mCons (mC (.str "a=0")) mNil)) mNil)))))))))
  (cSeq (cSet (.one 1) (mBin sAdd (mVar 1) (mApp sLstF (mCons (mC (.str "a=0\nthawed")) mNil))))
  (cSeq (cIf (bNot (bVal (mApp sAll (mCons (mLc (mIter (mBin sAdd (mVar 1) (mLcW finF 0 (.one 13) bYes (mBin sAdd (mC (.str "a=0\nopen ")) (mVar 13)) [13]))) (.one 11) bYes (mBin (sIsn false) (mApp (fnN 1 f__law_read) (mCons (mVar 11) mNil)) (mC .non)) [11]) mNil))))
  (cRet (mC (.bl false)))
  cNil)
  (cSeq (cSet (.one 2) (mApp sTup (mCons (mC (.str "open")) (mCons (mApp sTup (mCons (mApp sTup (mCons (mC (.str "f")) (mCons (mC (.int 1)) mNil))) mNil)) mNil))))
  (cSeq (cSet (.one 3) (mApp sLstM (mCons (mC .non) (mCons (mApp sTup mNil) (mCons (mC (.str "a=0\nopen")) (mCons (mApp sLstF mNil) (mCons (mApp sTup (mCons (mApp sTup (mCons (mVar 2) mNil)) (mCons (mApp sTup (mCons (mApp sTup (mCons (mC (.str "a")) (mCons (mC (.int 1)) mNil))) mNil)) mNil))) (mCons (mApp sTup (mCons (mApp sTup (mCons (mVar 2) mNil)) (mCons (mApp sTup (mCons (mApp sTup (mCons (mC (.str "A")) (mCons (mC (.int 0)) mNil))) mNil)) mNil))) (mCons (mApp sTup (mCons (mBin sMul (mApp sTup (mCons (mVar 2) mNil)) (mC (.int 31))) (mCons (mApp sTup (mCons (mApp sTup (mCons (mC (.str "a")) (mCons (mC (.int 0)) mNil))) mNil)) mNil))) mNil)))))))))
  (cSeq (cFor (mIter (mApp sLstF (mCons (mApp sTup (mCons (mC (.int 1)) mNil)) (mCons (mC (.bl true)) (mCons (mBin sPow (mC (.int 10)) (mC (.int 9))) (mCons (mC .non) mNil)))))) (.one 4)
  (cExpr (mAppend (mVar 3) (mApp sTup (mCons (mApp sTup (mCons (mApp sTup (mCons (mC (.str "open")) (mCons (mApp sTup (mCons (mApp sTup (mCons (mC (.str "f")) (mCons (mVar 4) mNil))) mNil)) mNil))) mNil)) (mCons (mApp sTup (mCons (mApp sTup (mCons (mC (.str "a")) (mCons (mC (.int 0)) mNil))) mNil)) mNil))))))
  (cSeq (cIf (bNot (bVal (mApp sAll (mCons (mLcW finF 3 (.one 11) bYes (mApp (fnN 1 f__law_refused) (mCons (mVar 11) mNil)) [11]) mNil))))
  (cRet (mC (.bl false)))
  cNil)
  (cSeq (cSet (.one 5) (mApp sLstF (mCons (mBin sMulS (mC (.str "a")) (mC (.int 8))) (mCons (mBin sMulS (mC (.str "b")) (mC (.int 8))) (mCons (mC (.str "frozen")) (mCons (mC (.str "open")) (mCons (mBin sMulS (mC (.str "z")) (mC (.int 7))) (mCons (mBin sMulS (mC (.str "z")) (mC (.int 8))) mNil))))))))
  (cSeq (cSet (.one 6) (mApp sLstM mNil))
  (cSeq (cFor (mRange1 (mC (.int 30))) (.one 7)
  (cExpr (mAppend (mVar 6) (mApp sTup (mCons (mC (.str "frozen")) (mCons (mApp sTup (mCons (mApp sTup (mCons (mC (.str "aaaaaaaa")) (mCons (mUn sNeg (mC (.int 999999999))) mNil))) (mCons (mApp sTup (mCons (mC (.str "f")) (mCons (mApp sTup (mCons (mBin sSub (mC (.int 29)) (mVar 7)) mNil)) mNil))) (mCons (mApp sTup (mCons (mC (.str "frozen")) (mCons (mC (.int 999999999)) mNil))) (mCons (mApp sTup (mCons (mC (.str "open")) (mCons (mApp sTup (mCons (mVar 7) mNil)) mNil))) mNil))))) mNil))))))
  (cSeq (cSet (.one 8) (mApp sTup (mCons (mApp sTuple (mCons (mVar 6) mNil)) (mCons (mApp sTuple (mCons (mLc (mIter (mVar 5)) (.one 12) bYes (mApp sTup (mCons (mVar 12) (mCons (mC (.int 29)) mNil))) [12]) mNil)) mNil))))
  (cSeq (cIf (bOr (bVal (mBin sNe (mApp (fnN 1 f_write__N) (mCons (mVar 8) mNil)) (mApp (fnN 1 f__law_text) (mCons (mVar 8) mNil)))) (bVal (mBin sNe (mApp (fnN 1 f_read__N) (mCons (mApp (fnN 1 f__law_text) (mCons (mVar 8) mNil)) mNil)) (mVar 8))))
  (cRet (mC (.bl false)))
  cNil)
  (cSeq (cIf (bNot (bVal (mApp (fnN 0 f__law_letters_good) mNil)))
  (cRet (mC (.bl false)))
  cNil)
  (cSeq (cSet (.one 9) (mApp sLstF (mCons (mC (.str "a=0\nopen")) (mCons (mC (.str "a=0\nfrozen f=-999999999 g=#0")) (mCons (mC (.str "abcdefgh=1 b=0\nopen\nopen f=999999999")) mNil)))))
  (cRet (mApp sAll (mCons (mLc (mIter (mVar 9)) (.one 10) bYes (mAnd (mBin (sIsn true) (mApp (fnN 1 f__law_read) (mCons (mVar 10) mNil)) (mC .non)) (mBin sEq (mApp (fnN 1 f_write__N) (mCons (mApp (fnN 1 f_read__N) (mCons (mVar 10) mNil)) mNil)) (mVar 10))) [10]) mNil))))))))))))))))))))))))))
def f__law_fixed_good : MF := defM 14 m__law_fixed_good
def m_law_25 : MS := (cSeq (cFor (mRange1 (mApp sMax2 (mCons (mApp sMin2 (mCons (mApp sLen (mCons (mVar 0) mNil)) (mCons (mC (.int 5)) mNil))) (mCons (mC (.int 1)) mNil)))) (.one 1)
  (cSeq (cSet (.one 2) (mApp sLstM (mCons (mApp (fnN 2 f__law_cell) (mCons (mVar 0) (mCons (mVar 1) mNil))) mNil)))
  (cFor (mRange1 (mC (.int 2))) (.one 3)
  (cSeq (cSet (.one 4) (mApp (fnN 2 f__law_web_2) (mCons (mVar 2) (mCons (mC (.int 14)) mNil))))
  (cSeq (cSet (.one 5) (mApp (fnN 1 f__law_text) (mCons (mVar 4) mNil)))
  (cSeq (cIf (bOr (bVal (mBin sNe (mApp (fnN 1 f_write__N) (mCons (mVar 4) mNil)) (mVar 5))) (bVal (mBin sNe (mApp (fnN 1 f_read__N) (mCons (mVar 5) mNil)) (mVar 4))))
  (cRet (mC (.bl false)))
  cNil)
  (cFor (mRange1 (mC (.int 12))) (.one 6)
  (cSeq (cSet (.one 7) (mApp (fnN 2 f__law_bent_4) (mCons (mVar 2) (mCons (mVar 5) mNil))))
  (cSeq (cSet (.one 8) (mApp (fnN 1 f__law_read) (mCons (mVar 7) mNil)))
  (cSeq (cIf (bAnd (bVal (mBin (sIsn false) (mVar 8) (mC .non))) (bVal (mBin sEq (mVar 7) (mVar 5))))
  (cRet (mC (.bl false)))
  cNil)
  (cIf (bVal (mBin (sIsn true) (mVar 8) (mC .non)))
  (cIf (bOr (bNot (bVal (mApp (fnN 1 f_is_web) (mCons (mVar 8) mNil)))) (bOr (bVal (mBin sNe (mApp (fnN 1 f_write__N) (mCons (mVar 8) mNil)) (mVar 7))) (bVal (mBin sNe (mApp (fnN 1 f__law_text) (mCons (mVar 8) mNil)) (mVar 7)))))
  (cRet (mC (.bl false)))
  cNil)
  cNil)))))))))))
  (cRet (mApp (fnN 0 f__law_fixed_good) mNil)))
def f_law_25 : MF := defM 9 m_law_25
end Pg
end
set_option Elab.async false
set_option linter.all false
set_option maxRecDepth 100000
set_option maxHeartbeats 4000000
namespace K60
open PySem PySem.Spec PyProof.Rows L2 Sim Pg
/-! ### the text -/
def topS (i : Nat) : Stmt := PySem.Challenge.pw_openfrozen_k60_webs_as_texts.main.body.getD i (.Pass ⟨0, 0, 0, 0⟩)
theorem sc_is_int : FnScope ["value"] ["value"] (defScope (topS 12)) := ⟨rfl, rfl, rfl, by decide +kernel, rfl, by decide +kernel, by decide +kernel⟩
theorem ok_is_int [Tb] {P : Program} {w : World} {K : PySem.W.Frag} {mg : Str → Option Value} {base : Heap} {f : Addr} {fd : FuncData} (F : Fun K "is_int" "is_int" (topS 12) f fd) (hz : Hz w) (c_LEAST_INT : Co P w K mg base "LEAST_INT" v_LEAST_INT) (c_MOST_INT : Co P w K mg base "MOST_INT" v_MOST_INT) (b_isinstance : mg "isinstance" = none) (b_bool : mg "bool" = none) (b_int : mg "int" = none) : FnG P w K mg base CX0 1 f fd ["value"] (spM (clsK K) K 1 f_is_int) :=
  y_def F sc_is_int fun cdv A outer s H E gd hr =>
  ((s_one (s_ret (x_and (x_callB call_isi n_isi (by rfl) b_isinstance (by decide +kernel) (x_cons (x_var 0 rfl (by first | exact .inl rfl | exact .inr (.inl rfl) | exact .inr (.inr rfl))) (x_cons (x_ty (by rfl) b_int (by decide +kernel)) x_nil))) (x_and (x_not (x_callB call_isi n_isi (by rfl) b_isinstance (by decide +kernel) (x_cons (x_var 0 rfl (by first | exact .inl rfl | exact .inr (.inl rfl) | exact .inr (.inr rfl))) (x_cons (x_ty (by rfl) b_bool (by decide +kernel)) x_nil)))) (x_one (x_chain o_le s_ord o_le s_ord c_LEAST_INT.ex (x_var 0 rfl (by first | exact .inl rfl | exact .inr (.inl rfl) | exact .inr (.inr rfl))) c_MOST_INT.ex)))))) : SXs (cxOf CX0 P w K mg base ["value"] "is_int" (defScope (topS 12)) f cdv A outer s H E).nox (clsK K) E0 (defBody (topS 12)) m_is_int)
theorem sc_is_word : FnScope ["value", "sign"] ["value"] (defScope (topS 13)) := ⟨rfl, rfl, rfl, by decide +kernel, rfl, by decide +kernel, by decide +kernel⟩
theorem ok_is_word [Tb] {P : Program} {w : World} {K : PySem.W.Frag} {mg : Str → Option Value} {base : Heap} {f : Addr} {fd : FuncData} (F : Fun K "is_word" "is_word" (topS 13) f fd) (hz : Hz w) (c_MOST_LETTERS : Co P w K mg base "MOST_LETTERS" v_MOST_LETTERS) (b_all : mg "all" = none) (b_len : mg "len" = none) (b_isinstance : mg "isinstance" = none) (b_str : mg "str" = none) : FnG P w K mg base CX0 1 f fd ["value"] (spM (clsK K) K 1 f_is_word) :=
  y_def F sc_is_word fun cdv A outer s H E gd hr =>
  ((s_cons (s_if (PW.pt (t_or (t_not (t_val (x_callB call_isi n_isi (by rfl) b_isinstance (by decide +kernel) (x_cons (x_var 0 rfl (by first | exact .inl rfl | exact .inr (.inl rfl) | exact .inr (.inr rfl))) (x_cons (x_ty (by rfl) b_str (by decide +kernel)) x_nil))))) (t_or1 (t_not (t_chain o_le s_ord o_le s_ord x_int (x_callB call_len n_len (by rfl) b_len (by decide +kernel) (x_cons (x_var 0 rfl (by first | exact .inl rfl | exact .inr (.inl rfl) | exact .inr (.inr rfl))) x_nil)) c_MOST_LETTERS.ex)))))
  (s_one (s_ret x_bl))
  s_nil)
  (s_one (s_ret (x_callB (cr_all rfl) n_all (by rfl) b_all (by decide +kernel) (x_cons (x_lc (own := [("sign", 1)]) rfl sc_is_word.nd (i_any (x_var 0 rfl (by first | exact .inl rfl | exact .inr (.inl rfl) | exact .inr (.inr rfl)))) (blkOk_by (N := ["value", "sign"]) (sc := defScope (topS 13)) (by decide +kernel)) (fun _ _ _ _ _ => (g_one sc_is_word.nd (i := 1) rfl (by first | exact .inl rfl | exact .inr rfl) (by first | exact .inl rfl | exact .inr rfl))) (fun _ _ _ _ _ => c_nil) (fun _ _ _ _ _ => (x_chain o_le s_ord o_le s_ord x_str (x_var 1 rfl (by first | exact .inl rfl | exact .inr (.inl rfl) | exact .inr (.inr rfl))) x_str)) (by decide)) x_nil))))) : SXs (cxOf CX0 P w K mg base ["value", "sign"] "is_word" (defScope (topS 13)) f cdv A outer s H E).nox (clsK K) E0 (defBody (topS 13)) m_is_word)
theorem sc_words_of : FnScope ["pairs", "pair"] ["pairs"] (defScope (topS 14)) := ⟨rfl, rfl, rfl, by decide +kernel, rfl, by decide +kernel, by decide +kernel⟩
theorem ok_words_of [Tb] {P : Program} {w : World} {K : PySem.W.Frag} {mg : Str → Option Value} {base : Heap} {f : Addr} {fd : FuncData} (F : Fun K "words_of" "words_of" (topS 14) f fd) (hz : Hz w)  : FnG P w K mg base CX0 1 f fd ["pairs"] (spM (clsK K) K 1 f_words_of) :=
  y_def F sc_words_of fun cdv A outer s H E gd hr =>
  ((s_one (s_ret (x_lc (own := [("pair", 1)]) rfl sc_words_of.nd (i_any (x_var 0 rfl (by first | exact .inl rfl | exact .inr (.inl rfl) | exact .inr (.inr rfl)))) (blkOk_by (N := ["pairs", "pair"]) (sc := defScope (topS 14)) (by decide +kernel)) (fun _ _ _ _ _ => (g_one sc_words_of.nd (i := 1) rfl (by first | exact .inl rfl | exact .inr rfl) (by first | exact .inl rfl | exact .inr rfl))) (fun _ _ _ _ _ => c_nil) (fun _ _ _ _ _ => (x_ix (o_ix hz (hu65 hr)) s_ix (x_var 1 rfl (by first | exact .inl rfl | exact .inr (.inl rfl) | exact .inr (.inr rfl))) x_int (fun _ _ => rfl))) (by decide)))) : SXs (cxOf CX0 P w K mg base ["pairs", "pair"] "words_of" (defScope (topS 14)) f cdv A outer s H E).nox (clsK K) E0 (defBody (topS 14)) m_words_of)
theorem sc_is_tuple : FnScope ["value", "least", "most"] ["value", "least", "most"] (defScope (topS 15)) := ⟨rfl, rfl, rfl, by decide +kernel, rfl, by decide +kernel, by decide +kernel⟩
theorem ok_is_tuple [Tb] {P : Program} {w : World} {K : PySem.W.Frag} {mg : Str → Option Value} {base : Heap} {f : Addr} {fd : FuncData} (F : Fun K "is_tuple" "is_tuple" (topS 15) f fd) (hz : Hz w) (b_len : mg "len" = none) (b_isinstance : mg "isinstance" = none) (b_tuple : mg "tuple" = none) : FnG P w K mg base CX0 1 f fd ["value", "least", "most"] (spM (clsK K) K 3 f_is_tuple) :=
  y_def F sc_is_tuple fun cdv A outer s H E gd hr =>
  ((s_one (s_ret (x_and (x_callB call_isi n_isi (by rfl) b_isinstance (by decide +kernel) (x_cons (x_var 0 rfl (by first | exact .inl rfl | exact .inr (.inl rfl) | exact .inr (.inr rfl))) (x_cons (x_ty (by rfl) b_tuple (by decide +kernel)) x_nil))) (x_one (x_chain o_le s_ord o_le s_ord (x_var 1 rfl (by first | exact .inl rfl | exact .inr (.inl rfl) | exact .inr (.inr rfl))) (x_callB call_len n_len (by rfl) b_len (by decide +kernel) (x_cons (x_var 0 rfl (by first | exact .inl rfl | exact .inr (.inl rfl) | exact .inr (.inr rfl))) x_nil)) (x_var 2 rfl (by first | exact .inl rfl | exact .inr (.inl rfl) | exact .inr (.inr rfl)))))))) : SXs (cxOf CX0 P w K mg base ["value", "least", "most"] "is_tuple" (defScope (topS 15)) f cdv A outer s H E).nox (clsK K) E0 (defBody (topS 15)) m_is_tuple)
theorem sc_is_number : FnScope ["value", "many"] ["value", "many"] (defScope (topS 16)) := ⟨rfl, rfl, rfl, by decide +kernel, rfl, by decide +kernel, by decide +kernel⟩
theorem ok_is_number [Tb] {P : Program} {w : World} {K : PySem.W.Frag} {mg : Str → Option Value} {base : Heap} {f : Addr} {fd : FuncData} (F : Fun K "is_number" "is_number" (topS 16) f fd) (hz : Hz w) (d_is_int : Df P w K mg base (clsK K) "is_int" 1 ["value"] f_is_int) : FnG P w K mg base CX0 2 f fd ["value", "many"] (spM (clsK K) K 2 f_is_number) :=
  y_def F sc_is_number fun cdv A outer s H E gd hr =>
  ((s_one (s_ret (x_and (y_call d_is_int gd hr (by decide) (by rfl) (x_cons (x_var 0 rfl (by first | exact .inl rfl | exact .inr (.inl rfl) | exact .inr (.inr rfl))) x_nil)) (x_one (x_chain o_le s_ord o_lt s_ord x_int (x_var 0 rfl (by first | exact .inl rfl | exact .inr (.inl rfl) | exact .inr (.inr rfl))) (x_var 1 rfl (by first | exact .inl rfl | exact .inr (.inl rfl) | exact .inr (.inr rfl)))))))) : SXs (cxOf CX0 P w K mg base ["value", "many"] "is_number" (defScope (topS 16)) f cdv A outer s H E).nox (clsK K) E0 (defBody (topS 16)) m_is_number)
theorem sc_is_field_value : FnScope ["value", "many"] ["value", "many"] (defScope (topS 17)) := ⟨rfl, rfl, rfl, by decide +kernel, rfl, by decide +kernel, by decide +kernel⟩
theorem ok_is_field_value [Tb] {P : Program} {w : World} {K : PySem.W.Frag} {mg : Str → Option Value} {base : Heap} {f : Addr} {fd : FuncData} (F : Fun K "is_field_value" "is_field_value" (topS 17) f fd) (hz : Hz w) (d_is_number : Df P w K mg base (clsK K) "is_number" 2 ["value", "many"] f_is_number) (d_is_tuple : Df P w K mg base (clsK K) "is_tuple" 1 ["value", "least", "most"] f_is_tuple) (d_is_int : Df P w K mg base (clsK K) "is_int" 1 ["value"] f_is_int) : FnG P w K mg base CX0 3 f fd ["value", "many"] (spM (clsK K) K 2 f_is_field_value) :=
  y_def F sc_is_field_value fun cdv A outer s H E gd hr =>
  ((s_one (s_ret (x_or (y_call d_is_int gd hr (by decide) (by rfl) (x_cons (x_var 0 rfl (by first | exact .inl rfl | exact .inr (.inl rfl) | exact .inr (.inr rfl))) x_nil)) (x_one (x_and (y_call d_is_tuple gd hr (by decide) (by rfl) (x_cons (x_var 0 rfl (by first | exact .inl rfl | exact .inr (.inl rfl) | exact .inr (.inr rfl))) (x_cons x_int (x_cons x_int x_nil)))) (x_one (y_call d_is_number gd hr (by decide) (by rfl) (x_cons (x_ix (o_ix hz (hu65 hr)) s_ix (x_var 0 rfl (by first | exact .inl rfl | exact .inr (.inl rfl) | exact .inr (.inr rfl))) x_int (fun _ _ => rfl)) (x_cons (x_var 1 rfl (by first | exact .inl rfl | exact .inr (.inl rfl) | exact .inr (.inr rfl))) x_nil))))))))) : SXs (cxOf CX0 P w K mg base ["value", "many"] "is_field_value" (defScope (topS 17)) f cdv A outer s H E).nox (clsK K) E0 (defBody (topS 17)) m_is_field_value)
theorem sc_is_table : FnScope ["value", "least", "most", "words", "pair"] ["value", "least", "most"] (defScope (topS 18)) := ⟨rfl, rfl, rfl, by decide +kernel, rfl, by decide +kernel, by decide +kernel⟩
theorem ok_is_table [Tb] {P : Program} {w : World} {K : PySem.W.Frag} {mg : Str → Option Value} {base : Heap} {f : Addr} {fd : FuncData} (F : Fun K "is_table" "is_table" (topS 18) f fd) (hz : Hz w) (b_sorted : mg "sorted" = none) (b_set : mg "set" = none) (b_all : mg "all" = none) (d_words_of : Df P w K mg base (clsK K) "words_of" 1 ["pairs"] f_words_of) (d_is_word : Df P w K mg base (clsK K) "is_word" 1 ["value"] f_is_word) (d_is_tuple : Df P w K mg base (clsK K) "is_tuple" 1 ["value", "least", "most"] f_is_tuple) : FnG P w K mg base CX0 2 f fd ["value", "least", "most"] (spM (clsK K) K 3 f_is_table) :=
  y_def F sc_is_table fun cdv A outer s H E gd hr =>
  ((s_cons (s_if (t_not (t_val (y_call d_is_tuple gd hr (by decide) (by rfl) (x_cons (x_var 0 rfl (by first | exact .inl rfl | exact .inr (.inl rfl) | exact .inr (.inr rfl))) (x_cons (x_var 1 rfl (by first | exact .inl rfl | exact .inr (.inl rfl) | exact .inr (.inr rfl))) (x_cons (x_var 2 rfl (by first | exact .inl rfl | exact .inr (.inl rfl) | exact .inr (.inr rfl))) x_nil))))))
  (s_one (s_ret x_bl))
  s_nil)
  (s_cons (s_if (t_not (t_val (x_callB (cr_all rfl) n_all (by rfl) b_all (by decide +kernel) (x_cons (x_lc (own := [("pair", 4)]) rfl sc_is_table.nd (i_any (x_var 0 rfl (by first | exact .inl rfl | exact .inr (.inl rfl) | exact .inr (.inr rfl)))) (blkOk_by (N := ["value", "least", "most", "words", "pair"]) (sc := defScope (topS 18)) (by decide +kernel)) (fun _ _ _ _ _ => (g_one sc_is_table.nd (i := 4) rfl (by first | exact .inl rfl | exact .inr rfl) (by first | exact .inl rfl | exact .inr rfl))) (fun _ _ _ _ _ => c_nil) (fun _ _ _ _ _ => (x_and (y_call d_is_tuple gd hr (by decide) (by rfl) (x_cons (x_var 4 rfl (by first | exact .inl rfl | exact .inr (.inl rfl) | exact .inr (.inr rfl))) (x_cons x_int (x_cons x_int x_nil)))) (x_one (y_call d_is_word gd hr (by decide) (by rfl) (x_cons (x_ix (o_ix hz (hu65 hr)) s_ix (x_var 4 rfl (by first | exact .inl rfl | exact .inr (.inl rfl) | exact .inr (.inr rfl))) x_int (fun _ _ => rfl)) x_nil))))) (by decide)) x_nil))))
  (s_one (s_ret x_bl))
  s_nil)
  (s_cons (s_set (i := 3) sc_is_table.nd rfl (by first | exact .inl rfl | exact .inr rfl) (y_call d_words_of gd hr (by decide) (by rfl) (x_cons (x_var 0 rfl (by first | exact .inl rfl | exact .inr (.inl rfl) | exact .inr (.inr rfl))) x_nil)))
  (s_one (s_ret (x_cmp (o_eq2 (hu64 hr)) s_eq (x_var 3 rfl (by first | exact .inl rfl | exact .inr (.inl rfl) | exact .inr (.inr rfl))) (x_sortset rfl (by rfl) b_sorted (by rfl) b_set (x_var 3 rfl (by first | exact .inl rfl | exact .inr (.inl rfl) | exact .inr (.inr rfl)))) (nomark _))))))) : SXs (cxOf CX0 P w K mg base ["value", "least", "most", "words", "pair"] "is_table" (defScope (topS 18)) f cdv A outer s H E).nox (clsK K) E0 (defBody (topS 18)) m_is_table)
theorem sc_is_object : FnScope ["value", "many", "fields", "pair"] ["value", "many"] (defScope (topS 19)) := ⟨rfl, rfl, rfl, by decide +kernel, rfl, by decide +kernel, by decide +kernel⟩
theorem ok_is_object [Tb] {P : Program} {w : World} {K : PySem.W.Frag} {mg : Str → Option Value} {base : Heap} {f : Addr} {fd : FuncData} (F : Fun K "is_object" "is_object" (topS 19) f fd) (hz : Hz w) (c_MOST_FIELDS : Co P w K mg base "MOST_FIELDS" v_MOST_FIELDS) (c_KINDS : Co P w K mg base "KINDS" v_KINDS) (b_all : mg "all" = none) (d_is_field_value : Df P w K mg base (clsK K) "is_field_value" 3 ["value", "many"] f_is_field_value) (d_is_table : Df P w K mg base (clsK K) "is_table" 2 ["value", "least", "most"] f_is_table) (d_is_tuple : Df P w K mg base (clsK K) "is_tuple" 1 ["value", "least", "most"] f_is_tuple) : FnG P w K mg base CX0 4 f fd ["value", "many"] (spM (clsK K) K 2 f_is_object) :=
  y_def F sc_is_object fun cdv A outer s H E gd hr =>
  ((s_cons (s_if (PW.pt (t_or (t_not (t_val (y_call d_is_tuple gd hr (by decide) (by rfl) (x_cons (x_var 0 rfl (by first | exact .inl rfl | exact .inr (.inl rfl) | exact .inr (.inr rfl))) (x_cons x_int (x_cons x_int x_nil)))))) (t_or1 (t_cmp (o_notin hz (hu65 hr)) s_notin (x_ix (o_ix hz (hu65 hr)) s_ix (x_var 0 rfl (by first | exact .inl rfl | exact .inr (.inl rfl) | exact .inr (.inr rfl))) x_int (fun _ _ => rfl)) c_KINDS.ex (by rfl)))))
  (s_one (s_ret x_bl))
  s_nil)
  (s_cons (s_set (i := 2) sc_is_object.nd rfl (by first | exact .inl rfl | exact .inr rfl) (x_ix (o_ix hz (hu65 hr)) s_ix (x_var 0 rfl (by first | exact .inl rfl | exact .inr (.inl rfl) | exact .inr (.inr rfl))) x_int (fun _ _ => rfl)))
  (s_one (s_ret (x_and (y_call d_is_table gd hr (by decide) (by rfl) (x_cons (x_var 2 rfl (by first | exact .inl rfl | exact .inr (.inl rfl) | exact .inr (.inr rfl))) (x_cons x_int (x_cons c_MOST_FIELDS.ex x_nil)))) (x_one (x_callB (cr_all rfl) n_all (by rfl) b_all (by decide +kernel) (x_cons (x_lc (own := [("pair", 3)]) rfl sc_is_object.nd (i_any (x_var 2 rfl (by first | exact .inl rfl | exact .inr (.inl rfl) | exact .inr (.inr rfl)))) (blkOk_by (N := ["value", "many", "fields", "pair"]) (sc := defScope (topS 19)) (by decide +kernel)) (fun _ _ _ _ _ => (g_one sc_is_object.nd (i := 3) rfl (by first | exact .inl rfl | exact .inr rfl) (by first | exact .inl rfl | exact .inr rfl))) (fun _ _ _ _ _ => c_nil) (fun _ _ _ _ _ => (y_call d_is_field_value gd hr (by decide) (by rfl) (x_cons (x_ix (o_ix hz (hu65 hr)) s_ix (x_var 3 rfl (by first | exact .inl rfl | exact .inr (.inl rfl) | exact .inr (.inr rfl))) x_int (fun _ _ => rfl)) (x_cons (x_var 1 rfl (by first | exact .inl rfl | exact .inr (.inl rfl) | exact .inr (.inr rfl))) x_nil)))) (by decide)) x_nil)))))))) : SXs (cxOf CX0 P w K mg base ["value", "many", "fields", "pair"] "is_object" (defScope (topS 19)) f cdv A outer s H E).nox (clsK K) E0 (defBody (topS 19)) m_is_object)
theorem sc_is_names : FnScope ["value", "many", "pair"] ["value", "many"] (defScope (topS 20)) := ⟨rfl, rfl, rfl, by decide +kernel, rfl, by decide +kernel, by decide +kernel⟩
theorem ok_is_names [Tb] {P : Program} {w : World} {K : PySem.W.Frag} {mg : Str → Option Value} {base : Heap} {f : Addr} {fd : FuncData} (F : Fun K "is_names" "is_names" (topS 20) f fd) (hz : Hz w) (c_MOST_NAMES : Co P w K mg base "MOST_NAMES" v_MOST_NAMES) (b_all : mg "all" = none) (d_is_number : Df P w K mg base (clsK K) "is_number" 2 ["value", "many"] f_is_number) (d_is_table : Df P w K mg base (clsK K) "is_table" 2 ["value", "least", "most"] f_is_table) : FnG P w K mg base CX0 3 f fd ["value", "many"] (spM (clsK K) K 2 f_is_names) :=
  y_def F sc_is_names fun cdv A outer s H E gd hr =>
  ((s_one (s_ret (x_and (y_call d_is_table gd hr (by decide) (by rfl) (x_cons (x_var 0 rfl (by first | exact .inl rfl | exact .inr (.inl rfl) | exact .inr (.inr rfl))) (x_cons x_int (x_cons c_MOST_NAMES.ex x_nil)))) (x_one (x_callB (cr_all rfl) n_all (by rfl) b_all (by decide +kernel) (x_cons (x_lc (own := [("pair", 2)]) rfl sc_is_names.nd (i_any (x_var 0 rfl (by first | exact .inl rfl | exact .inr (.inl rfl) | exact .inr (.inr rfl)))) (blkOk_by (N := ["value", "many", "pair"]) (sc := defScope (topS 20)) (by decide +kernel)) (fun _ _ _ _ _ => (g_one sc_is_names.nd (i := 2) rfl (by first | exact .inl rfl | exact .inr rfl) (by first | exact .inl rfl | exact .inr rfl))) (fun _ _ _ _ _ => c_nil) (fun _ _ _ _ _ => (y_call d_is_number gd hr (by decide) (by rfl) (x_cons (x_ix (o_ix hz (hu65 hr)) s_ix (x_var 2 rfl (by first | exact .inl rfl | exact .inr (.inl rfl) | exact .inr (.inr rfl))) x_int (fun _ _ => rfl)) (x_cons (x_var 1 rfl (by first | exact .inl rfl | exact .inr (.inl rfl) | exact .inr (.inr rfl))) x_nil)))) (by decide)) x_nil)))))) : SXs (cxOf CX0 P w K mg base ["value", "many", "pair"] "is_names" (defScope (topS 20)) f cdv A outer s H E).nox (clsK K) E0 (defBody (topS 20)) m_is_names)
theorem sc_is_web : FnScope ["value", "many", "objects", "names", "item"] ["value"] (defScope (topS 22)) := ⟨rfl, rfl, rfl, by decide +kernel, rfl, by decide +kernel, by decide +kernel⟩
theorem ok_is_web [Tb] {P : Program} {w : World} {K : PySem.W.Frag} {mg : Str → Option Value} {base : Heap} {f : Addr} {fd : FuncData} (F : Fun K "is_web" "is_web" (topS 22) f fd) (hz : Hz w) (c_MOST_OBJECTS : Co P w K mg base "MOST_OBJECTS" v_MOST_OBJECTS) (b_all : mg "all" = none) (b_len : mg "len" = none) (d_is_object : Df P w K mg base (clsK K) "is_object" 4 ["value", "many"] f_is_object) (d_is_names : Df P w K mg base (clsK K) "is_names" 3 ["value", "many"] f_is_names) (d_is_tuple : Df P w K mg base (clsK K) "is_tuple" 1 ["value", "least", "most"] f_is_tuple) : FnG P w K mg base CX0 5 f fd ["value"] (spM (clsK K) K 1 f_is_web) :=
  y_def F sc_is_web fun cdv A outer s H E gd hr =>
  ((s_cons (s_if (PW.pt (t_or (t_not (t_val (y_call d_is_tuple gd hr (by decide) (by rfl) (x_cons (x_var 0 rfl (by first | exact .inl rfl | exact .inr (.inl rfl) | exact .inr (.inr rfl))) (x_cons x_int (x_cons x_int x_nil)))))) (t_or1 (t_not (t_val (y_call d_is_tuple gd hr (by decide) (by rfl) (x_cons (x_ix (o_ix hz (hu65 hr)) s_ix (x_var 0 rfl (by first | exact .inl rfl | exact .inr (.inl rfl) | exact .inr (.inr rfl))) x_int (fun _ _ => rfl)) (x_cons x_int (x_cons c_MOST_OBJECTS.ex x_nil)))))))))
  (s_one (s_ret x_bl))
  s_nil)
  (s_cons (s_asg (x_var 0 rfl (by first | exact .inl rfl | exact .inr (.inl rfl) | exact .inr (.inr rfl))) (g_many rfl (g_cons (g_one sc_is_web.nd (i := 2) rfl (by first | exact .inl rfl | exact .inr rfl) (by first | exact .inl rfl | exact .inr rfl)) (g_cons (g_one sc_is_web.nd (i := 3) rfl (by first | exact .inl rfl | exact .inr rfl) (by first | exact .inl rfl | exact .inr rfl)) g_nil))))
  (s_cons (s_set (i := 1) sc_is_web.nd rfl (by first | exact .inl rfl | exact .inr rfl) (x_callB call_len n_len (by rfl) b_len (by decide +kernel) (x_cons (x_var 2 rfl (by first | exact .inl rfl | exact .inr (.inl rfl) | exact .inr (.inr rfl))) x_nil)))
  (s_one (s_ret (x_and (y_call d_is_names gd hr (by decide) (by rfl) (x_cons (x_var 3 rfl (by first | exact .inl rfl | exact .inr (.inl rfl) | exact .inr (.inr rfl))) (x_cons (x_var 1 rfl (by first | exact .inl rfl | exact .inr (.inl rfl) | exact .inr (.inr rfl))) x_nil))) (x_one (x_callB (cr_all rfl) n_all (by rfl) b_all (by decide +kernel) (x_cons (x_lc (own := [("item", 4)]) rfl sc_is_web.nd (i_any (x_var 2 rfl (by first | exact .inl rfl | exact .inr (.inl rfl) | exact .inr (.inr rfl)))) (blkOk_by (N := ["value", "many", "objects", "names", "item"]) (sc := defScope (topS 22)) (by decide +kernel)) (fun _ _ _ _ _ => (g_one sc_is_web.nd (i := 4) rfl (by first | exact .inl rfl | exact .inr rfl) (by first | exact .inl rfl | exact .inr rfl))) (fun _ _ _ _ _ => c_nil) (fun _ _ _ _ _ => (y_call d_is_object gd hr (by decide) (by rfl) (x_cons (x_var 4 rfl (by first | exact .inl rfl | exact .inr (.inl rfl) | exact .inr (.inr rfl))) (x_cons (x_var 1 rfl (by first | exact .inl rfl | exact .inr (.inl rfl) | exact .inr (.inr rfl))) x_nil)))) (by decide)) x_nil))))))))) : SXs (cxOf CX0 P w K mg base ["value", "many", "objects", "names", "item"] "is_web" (defScope (topS 22)) f cdv A outer s H E).nox (clsK K) E0 (defBody (topS 22)) m_is_web)
theorem sc_check_web : FnScope ["web"] ["web"] (defScope (topS 23)) := ⟨rfl, rfl, rfl, by decide +kernel, rfl, by decide +kernel, by decide +kernel⟩
theorem ok_check_web [Tb] {P : Program} {w : World} {K : PySem.W.Frag} {mg : Str → Option Value} {base : Heap} {f : Addr} {fd : FuncData} (F : Fun K "check_web" "check_web" (topS 23) f fd) (hz : Hz w) {C_InvalidWeb : Addr} (e_InvalidWeb : ErC K mg "InvalidWeb" C_InvalidWeb) (d_is_web : Df P w K mg base (clsK K) "is_web" 5 ["value"] f_is_web) : FnG P w K mg base (L2.CX P w) 6 f fd ["web"] (spM (clsK K) K 1 f_check_web_2) :=
  y_defX F sc_check_web fun cdv A outer s H E gd hr =>
  have tk : L2.Takes (cxOf (L2.CX P w) P w K mg base ["web"] "check_web" (defScope (topS 23)) f cdv A outer s H E) (fun cls d _ H => E cls d H) := L2.takes_of rfl rfl rfl rfl
  ((s_one (s_if (t_not (t_val (y_call d_is_web gd hr (by decide) (by rfl) (x_cons (x_var 0 rfl (by first | exact .inl rfl | exact .inr (.inl rfl) | exact .inr (.inr rfl))) x_nil))))
  (s_one (s_raise rfl tk e_InvalidWeb.ck (L2.pmk_own PySem.F.excBase_ValueError e_InvalidWeb.x e_InvalidWeb.g e_InvalidWeb.k (L2.raises_own e_InvalidWeb.b e_InvalidWeb.t) (by rfl))))
  s_nil)) : SXs (cxOf (L2.CX P w) P w K mg base ["web"] "check_web" (defScope (topS 23)) f cdv A outer s H E) (clsK K) E (defBody (topS 23)) m_check_web_2)
theorem sc_check_web__N : FnScope ["web"] ["web"] (defScope (topS 23)) := ⟨rfl, rfl, rfl, by decide +kernel, rfl, by decide +kernel, by decide +kernel⟩
theorem ok_check_web__N [Tb] {P : Program} {w : World} {K : PySem.W.Frag} {mg : Str → Option Value} {base : Heap} {f : Addr} {fd : FuncData} (F : Fun K "check_web" "check_web" (topS 23) f fd) (hz : Hz w) (d_is_web : Df P w K mg base (clsK K) "is_web" 5 ["value"] f_is_web) : FnG P w K mg base CX0 6 f fd ["web"] (spM (clsK K) K 1 f_check_web__N) :=
  y_def F sc_check_web__N fun cdv A outer s H E gd hr =>
  ((s_one (s_if (t_not (t_val (y_call d_is_web gd hr (by decide) (by rfl) (x_cons (x_var 0 rfl (by first | exact .inl rfl | exact .inr (.inl rfl) | exact .inr (.inr rfl))) x_nil))))
  (s_one s_bad)
  s_nil)) : SXs (cxOf CX0 P w K mg base ["web"] "check_web" (defScope (topS 23)) f cdv A outer s H E).nox (clsK K) E0 (defBody (topS 23)) m_check_web__N)
theorem sc_text_of_pair : FnScope ["word", "value"] ["word", "value"] (defScope (topS 26)) := ⟨rfl, rfl, rfl, by decide +kernel, rfl, by decide +kernel, by decide +kernel⟩
theorem ok_text_of_pair [Tb] {P : Program} {w : World} {K : PySem.W.Frag} {mg : Str → Option Value} {base : Heap} {f : Addr} {fd : FuncData} (F : Fun K "text_of_pair" "text_of_pair" (topS 26) f fd) (hz : Hz w) (b_str : mg "str" = none) (b_isinstance : mg "isinstance" = none) (b_tuple : mg "tuple" = none) : FnG P w K mg base CX0 1 f fd ["word", "value"] (spM (clsK K) K 2 f_text_of_pair) :=
  y_def F sc_text_of_pair fun cdv A outer s H E gd hr =>
  ((s_cons (s_if (t_val (x_callB call_isi n_isi (by rfl) b_isinstance (by decide +kernel) (x_cons (x_var 1 rfl (by first | exact .inl rfl | exact .inr (.inl rfl) | exact .inr (.inr rfl))) (x_cons (x_ty (by rfl) b_tuple (by decide +kernel)) x_nil))))
  (s_one (s_ret (x_bin o_add s_add (x_bin o_add s_add (x_var 0 rfl (by first | exact .inl rfl | exact .inr (.inl rfl) | exact .inr (.inr rfl))) x_str) (x_strOf gd hr (by rfl) b_str (x_ix (o_ix hz (hu65 hr)) s_ix (x_var 1 rfl (by first | exact .inl rfl | exact .inr (.inl rfl) | exact .inr (.inr rfl))) x_int (fun _ _ => rfl))))))
  s_nil)
  (s_one (s_ret (x_bin o_add s_add (x_bin o_add s_add (x_var 0 rfl (by first | exact .inl rfl | exact .inr (.inl rfl) | exact .inr (.inr rfl))) x_str) (x_strOf gd hr (by rfl) b_str (x_var 1 rfl (by first | exact .inl rfl | exact .inr (.inl rfl) | exact .inr (.inr rfl)))))))) : SXs (cxOf CX0 P w K mg base ["word", "value"] "text_of_pair" (defScope (topS 26)) f cdv A outer s H E).nox (clsK K) E0 (defBody (topS 26)) m_text_of_pair)
theorem sc_text_of_pairs : FnScope ["pairs", "word", "value"] ["pairs"] (defScope (topS 27)) := ⟨rfl, rfl, rfl, by decide +kernel, rfl, by decide +kernel, by decide +kernel⟩
theorem ok_text_of_pairs [Tb] {P : Program} {w : World} {K : PySem.W.Frag} {mg : Str → Option Value} {base : Heap} {f : Addr} {fd : FuncData} (F : Fun K "text_of_pairs" "text_of_pairs" (topS 27) f fd) (hz : Hz w) (d_text_of_pair : Df P w K mg base (clsK K) "text_of_pair" 1 ["word", "value"] f_text_of_pair) : FnG P w K mg base CX0 2 f fd ["pairs"] (spM (clsK K) K 1 f_text_of_pairs) :=
  y_def F sc_text_of_pairs fun cdv A outer s H E gd hr =>
  ((s_one (s_ret (x_lc (own := [("word", 1), ("value", 2)]) rfl sc_text_of_pairs.nd (i_any (x_var 0 rfl (by first | exact .inl rfl | exact .inr (.inl rfl) | exact .inr (.inr rfl)))) (blkOk_by (N := ["pairs", "word", "value"]) (sc := defScope (topS 27)) (by decide +kernel)) (fun _ _ _ _ _ => (g_many rfl (g_cons (g_one sc_text_of_pairs.nd (i := 1) rfl (by first | exact .inl rfl | exact .inr rfl) (by first | exact .inl rfl | exact .inr rfl)) (g_cons (g_one sc_text_of_pairs.nd (i := 2) rfl (by first | exact .inl rfl | exact .inr rfl) (by first | exact .inl rfl | exact .inr rfl)) g_nil)))) (fun _ _ _ _ _ => c_nil) (fun _ _ _ _ _ => (y_call d_text_of_pair gd hr (by decide) (by rfl) (x_cons (x_var 1 rfl (by first | exact .inl rfl | exact .inr (.inl rfl) | exact .inr (.inr rfl))) (x_cons (x_var 2 rfl (by first | exact .inl rfl | exact .inr (.inl rfl) | exact .inr (.inr rfl))) x_nil)))) (by decide)))) : SXs (cxOf CX0 P w K mg base ["pairs", "word", "value"] "text_of_pairs" (defScope (topS 27)) f cdv A outer s H E).nox (clsK K) E0 (defBody (topS 27)) m_text_of_pairs)
theorem sc_text_of : FnScope ["web", "lines", "objects", "names", "kind", "fields"] ["web"] (defScope (topS 28)) := ⟨rfl, rfl, rfl, by decide +kernel, rfl, by decide +kernel, by decide +kernel⟩
theorem ok_text_of [Tb] {P : Program} {w : World} {K : PySem.W.Frag} {mg : Str → Option Value} {base : Heap} {f : Addr} {fd : FuncData} (F : Fun K "text_of" "text_of" (topS 28) f fd) (hz : Hz w) (d_text_of_pairs : Df P w K mg base (clsK K) "text_of_pairs" 2 ["pairs"] f_text_of_pairs) : FnG P w K mg base CX0 3 f fd ["web"] (spM (clsK K) K 1 f_text_of) :=
  y_def F sc_text_of fun cdv A outer s H E gd hr =>
  ((s_cons (s_asg (x_var 0 rfl (by first | exact .inl rfl | exact .inr (.inl rfl) | exact .inr (.inr rfl))) (g_many rfl (g_cons (g_one sc_text_of.nd (i := 2) rfl (by first | exact .inl rfl | exact .inr rfl) (by first | exact .inl rfl | exact .inr rfl)) (g_cons (g_one sc_text_of.nd (i := 3) rfl (by first | exact .inl rfl | exact .inr rfl) (by first | exact .inl rfl | exact .inr rfl)) g_nil))))
  (s_cons (s_set (i := 1) sc_text_of.nd rfl (by first | exact .inl rfl | exact .inr rfl) (x_lstM (x_cons (x_join x_str (y_call d_text_of_pairs gd hr (by decide) (by rfl) (x_cons (x_var 3 rfl (by first | exact .inl rfl | exact .inr (.inl rfl) | exact .inr (.inr rfl))) x_nil))) x_nil)))
  (s_cons (s_expr (x_extend (x_var 1 rfl (by first | exact .inl rfl | exact .inr (.inl rfl) | exact .inr (.inr rfl))) (x_lc (own := [("kind", 4), ("fields", 5)]) rfl sc_text_of.nd (i_any (x_var 2 rfl (by first | exact .inl rfl | exact .inr (.inl rfl) | exact .inr (.inr rfl)))) (blkOk_by (N := ["web", "lines", "objects", "names", "kind", "fields"]) (sc := defScope (topS 28)) (by decide +kernel)) (fun _ _ _ _ _ => (g_many rfl (g_cons (g_one sc_text_of.nd (i := 4) rfl (by first | exact .inl rfl | exact .inr rfl) (by first | exact .inl rfl | exact .inr rfl)) (g_cons (g_one sc_text_of.nd (i := 5) rfl (by first | exact .inl rfl | exact .inr rfl) (by first | exact .inl rfl | exact .inr rfl)) g_nil)))) (fun _ _ _ _ _ => c_nil) (fun _ _ _ _ _ => (x_join x_str (x_bin o_add s_add (x_lstF (x_cons (x_var 4 rfl (by first | exact .inl rfl | exact .inr (.inl rfl) | exact .inr (.inr rfl))) x_nil)) (y_call d_text_of_pairs gd hr (by decide) (by rfl) (x_cons (x_var 5 rfl (by first | exact .inl rfl | exact .inr (.inl rfl) | exact .inr (.inr rfl))) x_nil))))) (by decide)) (hp := fun ho ha => pe_bm PySem.F.plainAttrs_list PySem.F.slot_list_extend PySem.F.type_list_extend mt_extend ho ha)))
  (s_one (s_ret (x_join x_str (x_var 1 rfl (by first | exact .inl rfl | exact .inr (.inl rfl) | exact .inr (.inr rfl))))))))) : SXs (cxOf CX0 P w K mg base ["web", "lines", "objects", "names", "kind", "fields"] "text_of" (defScope (topS 28)) f cdv A outer s H E).nox (clsK K) E0 (defBody (topS 28)) m_text_of)
theorem sc_int_in : FnScope ["text", "digits", "sign"] ["text"] (defScope (topS 29)) := ⟨rfl, rfl, rfl, by decide +kernel, rfl, by decide +kernel, by decide +kernel⟩
theorem ok_int_in [Tb] {P : Program} {w : World} {K : PySem.W.Frag} {mg : Str → Option Value} {base : Heap} {f : Addr} {fd : FuncData} (F : Fun K "int_in" "int_in" (topS 29) f fd) (hz : Hz w) (c_MOST_INT : Co P w K mg base "MOST_INT" v_MOST_INT) (b_int : mg "int" = none) (b_all : mg "all" = none) (b_len : mg "len" = none) (b_str : mg "str" = none) : FnG P w K mg base CX0 1 f fd ["text"] (spM (clsK K) K 1 f_int_in) :=
  y_def F sc_int_in fun cdv A outer s H E gd hr =>
  ((s_cons (s_set (i := 1) sc_int_in.nd rfl (by first | exact .inl rfl | exact .inr rfl) (x_rmpre (x_var 0 rfl (by first | exact .inl rfl | exact .inr (.inl rfl) | exact .inr (.inr rfl))) x_str))
  (s_cons (s_if (t_not (t_chain o_le s_ord o_le s_ord x_int (x_callB call_len n_len (by rfl) b_len (by decide +kernel) (x_cons (x_var 1 rfl (by first | exact .inl rfl | exact .inr (.inl rfl) | exact .inr (.inr rfl))) x_nil)) (x_callB call_len n_len (by rfl) b_len (by decide +kernel) (x_cons (x_strOf gd hr (by rfl) b_str c_MOST_INT.ex) x_nil))))
  (s_one (s_ret x_non))
  s_nil)
  (s_cons (s_if (t_not (t_val (x_callB (cr_all rfl) n_all (by rfl) b_all (by decide +kernel) (x_cons (x_lc (own := [("sign", 2)]) rfl sc_int_in.nd (i_any (x_var 1 rfl (by first | exact .inl rfl | exact .inr (.inl rfl) | exact .inr (.inr rfl)))) (blkOk_by (N := ["text", "digits", "sign"]) (sc := defScope (topS 29)) (by decide +kernel)) (fun _ _ _ _ _ => (g_one sc_int_in.nd (i := 2) rfl (by first | exact .inl rfl | exact .inr rfl) (by first | exact .inl rfl | exact .inr rfl))) (fun _ _ _ _ _ => c_nil) (fun _ _ _ _ _ => (x_chain o_le s_ord o_le s_ord x_str (x_var 2 rfl (by first | exact .inl rfl | exact .inr (.inl rfl) | exact .inr (.inr rfl))) x_str)) (by decide)) x_nil))))
  (s_one (s_ret x_non))
  s_nil)
  (s_one (s_ret (x_callTy call_int_str n_intS (by rfl) b_int (by decide +kernel) (x_cons (x_var 0 rfl (by first | exact .inl rfl | exact .inr (.inl rfl) | exact .inr (.inr rfl))) x_nil))))))) : SXs (cxOf CX0 P w K mg base ["text", "digits", "sign"] "int_in" (defScope (topS 29)) f cdv A outer s H E).nox (clsK K) E0 (defBody (topS 29)) m_int_in)
theorem sc_pair_in : FnScope ["text", "word", "_", "told"] ["text"] (defScope (topS 30)) := ⟨rfl, rfl, rfl, by decide +kernel, rfl, by decide +kernel, by decide +kernel⟩
theorem ok_pair_in [Tb] {P : Program} {w : World} {K : PySem.W.Frag} {mg : Str → Option Value} {base : Heap} {f : Addr} {fd : FuncData} (F : Fun K "pair_in" "pair_in" (topS 30) f fd) (hz : Hz w) (d_int_in : Df P w K mg base (clsK K) "int_in" 1 ["text"] f_int_in) : FnG P w K mg base CX0 2 f fd ["text"] (spM (clsK K) K 1 f_pair_in) :=
  y_def F sc_pair_in fun cdv A outer s H E gd hr =>
  ((s_cons (s_asg (x_part (x_var 0 rfl (by first | exact .inl rfl | exact .inr (.inl rfl) | exact .inr (.inr rfl))) x_str) (g_many rfl (g_cons (g_one sc_pair_in.nd (i := 1) rfl (by first | exact .inl rfl | exact .inr rfl) (by first | exact .inl rfl | exact .inr rfl)) (g_cons (g_one sc_pair_in.nd (i := 2) rfl (by first | exact .inl rfl | exact .inr rfl) (by first | exact .inl rfl | exact .inr rfl)) (g_cons (g_one sc_pair_in.nd (i := 3) rfl (by first | exact .inl rfl | exact .inr rfl) (by first | exact .inl rfl | exact .inr rfl)) g_nil)))))
  (s_cons (s_if (t_val (x_starts (x_var 3 rfl (by first | exact .inl rfl | exact .inr (.inl rfl) | exact .inr (.inr rfl))) x_str))
  (s_one (s_ret (x_tup (x_cons (x_var 1 rfl (by first | exact .inl rfl | exact .inr (.inl rfl) | exact .inr (.inr rfl))) (x_cons (x_tup (x_cons (y_call d_int_in gd hr (by decide) (by rfl) (x_cons (x_sliceS (x_var 3 rfl (by first | exact .inl rfl | exact .inr (.inl rfl) | exact .inr (.inr rfl))) (x_osome x_int) x_onone) x_nil)) x_nil)) x_nil)))))
  s_nil)
  (s_one (s_ret (x_tup (x_cons (x_var 1 rfl (by first | exact .inl rfl | exact .inr (.inl rfl) | exact .inr (.inr rfl))) (x_cons (y_call d_int_in gd hr (by decide) (by rfl) (x_cons (x_var 3 rfl (by first | exact .inl rfl | exact .inr (.inl rfl) | exact .inr (.inr rfl))) x_nil)) x_nil))))))) : SXs (cxOf CX0 P w K mg base ["text", "word", "_", "told"] "pair_in" (defScope (topS 30)) f cdv A outer s H E).nox (clsK K) E0 (defBody (topS 30)) m_pair_in)
theorem sc_pairs_in : FnScope ["texts", "text"] ["texts"] (defScope (topS 31)) := ⟨rfl, rfl, rfl, by decide +kernel, rfl, by decide +kernel, by decide +kernel⟩
theorem ok_pairs_in [Tb] {P : Program} {w : World} {K : PySem.W.Frag} {mg : Str → Option Value} {base : Heap} {f : Addr} {fd : FuncData} (F : Fun K "pairs_in" "pairs_in" (topS 31) f fd) (hz : Hz w) (b_tuple : mg "tuple" = none) (d_pair_in : Df P w K mg base (clsK K) "pair_in" 2 ["text"] f_pair_in) : FnG P w K mg base CX0 3 f fd ["texts"] (spM (clsK K) K 1 f_pairs_in) :=
  y_def F sc_pairs_in fun cdv A outer s H E gd hr =>
  ((s_one (s_ret (x_callTy call_tupN n_tuple (by rfl) b_tuple (by decide +kernel) (x_cons (x_lc (own := [("text", 1)]) rfl sc_pairs_in.nd (i_any (x_var 0 rfl (by first | exact .inl rfl | exact .inr (.inl rfl) | exact .inr (.inr rfl)))) (blkOk_by (N := ["texts", "text"]) (sc := defScope (topS 31)) (by decide +kernel)) (fun _ _ _ _ _ => (g_one sc_pairs_in.nd (i := 1) rfl (by first | exact .inl rfl | exact .inr rfl) (by first | exact .inl rfl | exact .inr rfl))) (fun _ _ _ _ _ => c_nil) (fun _ _ _ _ _ => (y_call d_pair_in gd hr (by decide) (by rfl) (x_cons (x_var 1 rfl (by first | exact .inl rfl | exact .inr (.inl rfl) | exact .inr (.inr rfl))) x_nil))) (by decide)) x_nil)))) : SXs (cxOf CX0 P w K mg base ["texts", "text"] "pairs_in" (defScope (topS 31)) f cdv A outer s H E).nox (clsK K) E0 (defBody (topS 31)) m_pairs_in)
theorem sc_object_in : FnScope ["line", "parts"] ["line"] (defScope (topS 32)) := ⟨rfl, rfl, rfl, by decide +kernel, rfl, by decide +kernel, by decide +kernel⟩
theorem ok_object_in [Tb] {P : Program} {w : World} {K : PySem.W.Frag} {mg : Str → Option Value} {base : Heap} {f : Addr} {fd : FuncData} (F : Fun K "object_in" "object_in" (topS 32) f fd) (hz : Hz w) (d_pairs_in : Df P w K mg base (clsK K) "pairs_in" 3 ["texts"] f_pairs_in) : FnG P w K mg base CX0 4 f fd ["line"] (spM (clsK K) K 1 f_object_in) :=
  y_def F sc_object_in fun cdv A outer s H E gd hr =>
  ((s_cons (s_set (i := 1) sc_object_in.nd rfl (by first | exact .inl rfl | exact .inr rfl) (x_split (x_var 0 rfl (by first | exact .inl rfl | exact .inr (.inl rfl) | exact .inr (.inr rfl))) x_str))
  (s_one (s_ret (x_tup (x_cons (x_ix (o_ix hz (hu65 hr)) s_ix (x_var 1 rfl (by first | exact .inl rfl | exact .inr (.inl rfl) | exact .inr (.inr rfl))) x_int (fun _ _ => rfl)) (x_cons (y_call d_pairs_in gd hr (by decide) (by rfl) (x_cons (x_slice (x_var 1 rfl (by first | exact .inl rfl | exact .inr (.inl rfl) | exact .inr (.inr rfl))) (x_osome x_int) x_onone) x_nil)) x_nil)))))) : SXs (cxOf CX0 P w K mg base ["line", "parts"] "object_in" (defScope (topS 32)) f cdv A outer s H E).nox (clsK K) E0 (defBody (topS 32)) m_object_in)
theorem sc_write : FnScope ["web"] ["web"] (defScope (topS 33)) := ⟨rfl, rfl, rfl, by decide +kernel, rfl, by decide +kernel, by decide +kernel⟩
theorem ok_write [Tb] {P : Program} {w : World} {K : PySem.W.Frag} {mg : Str → Option Value} {base : Heap} {f : Addr} {fd : FuncData} (F : Fun K "write" "write" (topS 33) f fd) (hz : Hz w) (x_check_web : DfX P w K mg base (clsK K) "check_web" 6 ["web"] f_check_web_2) (d_text_of : Df P w K mg base (clsK K) "text_of" 3 ["web"] f_text_of) : FnG P w K mg base (L2.CX P w) 7 f fd ["web"] (spM (clsK K) K 1 f_write) :=
  y_defX F sc_write fun cdv A outer s H E gd hr =>
  have tk : L2.Takes (cxOf (L2.CX P w) P w K mg base ["web"] "write" (defScope (topS 33)) f cdv A outer s H E) (fun cls d _ H => E cls d H) := L2.takes_of rfl rfl rfl rfl
  ((s_cons (s_expr (y_callX x_check_web tk gd hr (by decide) (by rfl) (x_cons (x_var 0 rfl (by first | exact .inl rfl | exact .inr (.inl rfl) | exact .inr (.inr rfl))) x_nil)))
  (s_nox (s_one (s_ret (y_call d_text_of gd hr (by decide) (by rfl) (x_cons (x_var 0 rfl (by first | exact .inl rfl | exact .inr (.inl rfl) | exact .inr (.inr rfl))) x_nil)))))) : SXs (cxOf (L2.CX P w) P w K mg base ["web"] "write" (defScope (topS 33)) f cdv A outer s H E) (clsK K) E (defBody (topS 33)) m_write)
theorem sc_write__N : FnScope ["web"] ["web"] (defScope (topS 33)) := ⟨rfl, rfl, rfl, by decide +kernel, rfl, by decide +kernel, by decide +kernel⟩
theorem ok_write__N [Tb] {P : Program} {w : World} {K : PySem.W.Frag} {mg : Str → Option Value} {base : Heap} {f : Addr} {fd : FuncData} (F : Fun K "write" "write" (topS 33) f fd) (hz : Hz w) (d_text_of : Df P w K mg base (clsK K) "text_of" 3 ["web"] f_text_of) (d_check_web__N : Df P w K mg base (clsK K) "check_web" 6 ["web"] f_check_web__N) : FnG P w K mg base CX0 7 f fd ["web"] (spM (clsK K) K 1 f_write__N) :=
  y_def F sc_write__N fun cdv A outer s H E gd hr =>
  ((s_cons (s_expr (y_call d_check_web__N gd hr (by decide) (by rfl) (x_cons (x_var 0 rfl (by first | exact .inl rfl | exact .inr (.inl rfl) | exact .inr (.inr rfl))) x_nil)))
  (s_one (s_ret (y_call d_text_of gd hr (by decide) (by rfl) (x_cons (x_var 0 rfl (by first | exact .inl rfl | exact .inr (.inl rfl) | exact .inr (.inr rfl))) x_nil))))) : SXs (cxOf CX0 P w K mg base ["web"] "write" (defScope (topS 33)) f cdv A outer s H E).nox (clsK K) E0 (defBody (topS 33)) m_write__N)
theorem sc_read : FnScope ["text", "lines", "web", "line"] ["text"] (defScope (topS 34)) := ⟨rfl, rfl, rfl, by decide +kernel, rfl, by decide +kernel, by decide +kernel⟩
theorem ok_read [Tb] {P : Program} {w : World} {K : PySem.W.Frag} {mg : Str → Option Value} {base : Heap} {f : Addr} {fd : FuncData} (F : Fun K "read" "read" (topS 34) f fd) (hz : Hz w) (c_MOST_SIGNS : Co P w K mg base "MOST_SIGNS" v_MOST_SIGNS) (b_len : mg "len" = none) (b_isinstance : mg "isinstance" = none) (b_str : mg "str" = none) (b_tuple : mg "tuple" = none) {C_InvalidText : Addr} (e_InvalidText : ErC K mg "InvalidText" C_InvalidText) (d_pairs_in : Df P w K mg base (clsK K) "pairs_in" 3 ["texts"] f_pairs_in) (d_object_in : Df P w K mg base (clsK K) "object_in" 4 ["line"] f_object_in) (d_text_of : Df P w K mg base (clsK K) "text_of" 3 ["web"] f_text_of) (d_is_web : Df P w K mg base (clsK K) "is_web" 5 ["value"] f_is_web) : FnG P w K mg base (L2.CX P w) 6 f fd ["text"] (spM (clsK K) K 1 f_read) :=
  y_defX F sc_read fun cdv A outer s H E gd hr =>
  have tk : L2.Takes (cxOf (L2.CX P w) P w K mg base ["text", "lines", "web", "line"] "read" (defScope (topS 34)) f cdv A outer s H E) (fun cls d _ H => E cls d H) := L2.takes_of rfl rfl rfl rfl
  ((s_cons (s_if (PW.pt (t_or (t_not (t_val (x_callB call_isi n_isi (by rfl) b_isinstance (by decide +kernel) (x_cons (x_var 0 rfl (by first | exact .inl rfl | exact .inr (.inl rfl) | exact .inr (.inr rfl))) (x_cons (x_ty (by rfl) b_str (by decide +kernel)) x_nil))))) (t_or1 (t_cmp o_gt s_ord (x_callB call_len n_len (by rfl) b_len (by decide +kernel) (x_cons (x_var 0 rfl (by first | exact .inl rfl | exact .inr (.inl rfl) | exact .inr (.inr rfl))) x_nil)) c_MOST_SIGNS.ex (nomark _)))))
  (s_one (s_raise rfl tk e_InvalidText.ck (L2.pmk_own PySem.F.excBase_ValueError e_InvalidText.x e_InvalidText.g e_InvalidText.k (L2.raises_own e_InvalidText.b e_InvalidText.t) (by rfl))))
  s_nil)
  (s_cons (s_set (i := 1) sc_read.nd rfl (by first | exact .inl rfl | exact .inr rfl) (x_split (x_var 0 rfl (by first | exact .inl rfl | exact .inr (.inl rfl) | exact .inr (.inr rfl))) x_str))
  (s_cons (s_set (i := 2) sc_read.nd rfl (by first | exact .inl rfl | exact .inr rfl) (x_tup (x_cons (x_callTy call_tupN n_tuple (by rfl) b_tuple (by decide +kernel) (x_cons (x_lc (own := [("line", 3)]) rfl sc_read.nd (i_any (x_slice (x_var 1 rfl (by first | exact .inl rfl | exact .inr (.inl rfl) | exact .inr (.inr rfl))) (x_osome x_int) x_onone)) (blkOk_by (N := ["text", "lines", "web", "line"]) (sc := defScope (topS 34)) (by decide +kernel)) (fun _ _ _ _ _ => (g_one sc_read.nd (i := 3) rfl (by first | exact .inl rfl | exact .inr rfl) (by first | exact .inl rfl | exact .inr rfl))) (fun _ _ _ _ _ => c_nil) (fun _ _ _ _ _ => (y_call d_object_in gd hr (by decide) (by rfl) (x_cons (x_var 3 rfl (by first | exact .inl rfl | exact .inr (.inl rfl) | exact .inr (.inr rfl))) x_nil))) (by decide)) x_nil)) (x_cons (y_call d_pairs_in gd hr (by decide) (by rfl) (x_cons (x_split (x_ix (o_ix hz (hu65 hr)) s_ix (x_var 1 rfl (by first | exact .inl rfl | exact .inr (.inl rfl) | exact .inr (.inr rfl))) x_int (fun _ _ => rfl)) x_str) x_nil)) x_nil))))
  (s_cons (s_if (PW.pt (t_or (t_not (t_val (y_call d_is_web gd hr (by decide) (by rfl) (x_cons (x_var 2 rfl (by first | exact .inl rfl | exact .inr (.inl rfl) | exact .inr (.inr rfl))) x_nil)))) (t_or1 (t_cmp (o_ne2 (hu64 hr)) s_ne (y_call d_text_of gd hr (by decide) (by rfl) (x_cons (x_var 2 rfl (by first | exact .inl rfl | exact .inr (.inl rfl) | exact .inr (.inr rfl))) x_nil)) (x_var 0 rfl (by first | exact .inl rfl | exact .inr (.inl rfl) | exact .inr (.inr rfl))) (nomark _)))))
  (s_one (s_raise rfl tk e_InvalidText.ck (L2.pmk_own PySem.F.excBase_ValueError e_InvalidText.x e_InvalidText.g e_InvalidText.k (L2.raises_own e_InvalidText.b e_InvalidText.t) (by rfl))))
  s_nil)
  (s_nox (s_one (s_ret (x_var 2 rfl (by first | exact .inl rfl | exact .inr (.inl rfl) | exact .inr (.inr rfl)))))))))) : SXs (cxOf (L2.CX P w) P w K mg base ["text", "lines", "web", "line"] "read" (defScope (topS 34)) f cdv A outer s H E) (clsK K) E (defBody (topS 34)) m_read)
theorem sc_read__N : FnScope ["text", "lines", "web", "line"] ["text"] (defScope (topS 34)) := ⟨rfl, rfl, rfl, by decide +kernel, rfl, by decide +kernel, by decide +kernel⟩
theorem ok_read__N [Tb] {P : Program} {w : World} {K : PySem.W.Frag} {mg : Str → Option Value} {base : Heap} {f : Addr} {fd : FuncData} (F : Fun K "read" "read" (topS 34) f fd) (hz : Hz w) (c_MOST_SIGNS : Co P w K mg base "MOST_SIGNS" v_MOST_SIGNS) (b_tuple : mg "tuple" = none) (b_len : mg "len" = none) (b_isinstance : mg "isinstance" = none) (b_str : mg "str" = none) (d_text_of : Df P w K mg base (clsK K) "text_of" 3 ["web"] f_text_of) (d_is_web : Df P w K mg base (clsK K) "is_web" 5 ["value"] f_is_web) (d_pairs_in : Df P w K mg base (clsK K) "pairs_in" 3 ["texts"] f_pairs_in) (d_object_in : Df P w K mg base (clsK K) "object_in" 4 ["line"] f_object_in) : FnG P w K mg base CX0 6 f fd ["text"] (spM (clsK K) K 1 f_read__N) :=
  y_def F sc_read__N fun cdv A outer s H E gd hr =>
  ((s_cons (s_if (PW.pt (t_or (t_not (t_val (x_callB call_isi n_isi (by rfl) b_isinstance (by decide +kernel) (x_cons (x_var 0 rfl (by first | exact .inl rfl | exact .inr (.inl rfl) | exact .inr (.inr rfl))) (x_cons (x_ty (by rfl) b_str (by decide +kernel)) x_nil))))) (t_or1 (t_cmp o_gt s_ord (x_callB call_len n_len (by rfl) b_len (by decide +kernel) (x_cons (x_var 0 rfl (by first | exact .inl rfl | exact .inr (.inl rfl) | exact .inr (.inr rfl))) x_nil)) c_MOST_SIGNS.ex (nomark _)))))
  (s_one s_bad)
  s_nil)
  (s_cons (s_set (i := 1) sc_read__N.nd rfl (by first | exact .inl rfl | exact .inr rfl) (x_split (x_var 0 rfl (by first | exact .inl rfl | exact .inr (.inl rfl) | exact .inr (.inr rfl))) x_str))
  (s_cons (s_set (i := 2) sc_read__N.nd rfl (by first | exact .inl rfl | exact .inr rfl) (x_tup (x_cons (x_callTy call_tupN n_tuple (by rfl) b_tuple (by decide +kernel) (x_cons (x_lc (own := [("line", 3)]) rfl sc_read__N.nd (i_any (x_slice (x_var 1 rfl (by first | exact .inl rfl | exact .inr (.inl rfl) | exact .inr (.inr rfl))) (x_osome x_int) x_onone)) (blkOk_by (N := ["text", "lines", "web", "line"]) (sc := defScope (topS 34)) (by decide +kernel)) (fun _ _ _ _ _ => (g_one sc_read__N.nd (i := 3) rfl (by first | exact .inl rfl | exact .inr rfl) (by first | exact .inl rfl | exact .inr rfl))) (fun _ _ _ _ _ => c_nil) (fun _ _ _ _ _ => (y_call d_object_in gd hr (by decide) (by rfl) (x_cons (x_var 3 rfl (by first | exact .inl rfl | exact .inr (.inl rfl) | exact .inr (.inr rfl))) x_nil))) (by decide)) x_nil)) (x_cons (y_call d_pairs_in gd hr (by decide) (by rfl) (x_cons (x_split (x_ix (o_ix hz (hu65 hr)) s_ix (x_var 1 rfl (by first | exact .inl rfl | exact .inr (.inl rfl) | exact .inr (.inr rfl))) x_int (fun _ _ => rfl)) x_str) x_nil)) x_nil))))
  (s_cons (s_if (PW.pt (t_or (t_not (t_val (y_call d_is_web gd hr (by decide) (by rfl) (x_cons (x_var 2 rfl (by first | exact .inl rfl | exact .inr (.inl rfl) | exact .inr (.inr rfl))) x_nil)))) (t_or1 (t_cmp (o_ne2 (hu64 hr)) s_ne (y_call d_text_of gd hr (by decide) (by rfl) (x_cons (x_var 2 rfl (by first | exact .inl rfl | exact .inr (.inl rfl) | exact .inr (.inr rfl))) x_nil)) (x_var 0 rfl (by first | exact .inl rfl | exact .inr (.inl rfl) | exact .inr (.inr rfl))) (nomark _)))))
  (s_one s_bad)
  s_nil)
  (s_one (s_ret (x_var 2 rfl (by first | exact .inl rfl | exact .inr (.inl rfl) | exact .inr (.inr rfl))))))))) : SXs (cxOf CX0 P w K mg base ["text", "lines", "web", "line"] "read" (defScope (topS 34)) f cdv A outer s H E).nox (clsK K) E0 (defBody (topS 34)) m_read__N)
theorem sc__law_mixed : FnScope ["cell", "k", "number"] ["cell", "k"] (defScope (topS 36)) := ⟨rfl, rfl, rfl, by decide +kernel, rfl, by decide +kernel, by decide +kernel⟩
theorem ok__law_mixed [Tb] {P : Program} {w : World} {K : PySem.W.Frag} {mg : Str → Option Value} {base : Heap} {f : Addr} {fd : FuncData} (F : Fun K "_law_mixed" "_law_mixed" (topS 36) f fd) (hz : Hz w) (b_int : mg "int" = none) : FnG P w K mg base CX0 1 f fd ["cell", "k"] (spM (clsK K) K 2 f__law_mixed) :=
  y_def F sc__law_mixed fun cdv A outer s H E gd hr =>
  ((s_cons (s_set (i := 2) sc__law_mixed.nd rfl (by first | exact .inl rfl | exact .inr rfl) (x_bin op_mod s_mod (x_callTy call_int1 n_int (by rfl) b_int (by decide +kernel) (x_cons (x_bin o_add s_add (x_bin o_add s_add (x_bin o_mul s_mul (x_bin op_mod s_mod (x_callTy call_int1 n_int (by rfl) b_int (by decide +kernel) (x_cons (x_var 0 rfl (by first | exact .inl rfl | exact .inr (.inl rfl) | exact .inr (.inr rfl))) x_nil)) x_int) x_int) (x_bin o_mul s_mul (x_var 1 rfl (by first | exact .inl rfl | exact .inr (.inl rfl) | exact .inr (.inr rfl))) x_int)) x_int) x_nil)) x_int))
  (s_cons (s_set (i := 2) sc__law_mixed.nd rfl (by first | exact .inl rfl | exact .inr rfl) (x_bin op_mod s_mod (x_callTy call_int1 n_int (by rfl) b_int (by decide +kernel) (x_cons (x_bin o_mul s_mul (x_var 2 rfl (by first | exact .inl rfl | exact .inr (.inl rfl) | exact .inr (.inr rfl))) (x_var 2 rfl (by first | exact .inl rfl | exact .inr (.inl rfl) | exact .inr (.inr rfl)))) x_nil)) x_int))
  (s_one (s_ret (x_bin op_mod s_mod (x_callTy call_int1 n_int (by rfl) b_int (by decide +kernel) (x_cons (x_bin o_mul s_mul (x_var 2 rfl (by first | exact .inl rfl | exact .inr (.inl rfl) | exact .inr (.inr rfl))) (x_bin o_add s_add (x_var 2 rfl (by first | exact .inl rfl | exact .inr (.inl rfl) | exact .inr (.inr rfl))) x_int)) x_nil)) x_int))))) : SXs (cxOf CX0 P w K mg base ["cell", "k", "number"] "_law_mixed" (defScope (topS 36)) f cdv A outer s H E).nox (clsK K) E0 (defBody (topS 36)) m__law_mixed)
theorem sc__law_cell : FnScope ["script", "k", "cell", "found", "j"] ["script", "k"] (defScope (topS 37)) := ⟨rfl, rfl, rfl, by decide +kernel, rfl, by decide +kernel, by decide +kernel⟩
theorem ok__law_cell [Tb] {P : Program} {w : World} {K : PySem.W.Frag} {mg : Str → Option Value} {base : Heap} {f : Addr} {fd : FuncData} (F : Fun K "_law_cell" "_law_cell" (topS 37) f fd) (hz : Hz w) (b_range : mg "range" = none) (b_int : mg "int" = none) (b_len : mg "len" = none) (d__law_mixed : Df P w K mg base (clsK K) "_law_mixed" 1 ["cell", "k"] f__law_mixed) : FnG P w K mg base CX0 2 f fd ["script", "k"] (spM (clsK K) K 2 f__law_cell) :=
  y_def F sc__law_cell fun cdv A outer s H E gd hr =>
  ((s_cons (s_set (i := 2) sc__law_cell.nd rfl (by first | exact .inl rfl | exact .inr rfl) x_int)
  (s_cons (s_if (t_cmp o_lt s_ord (x_var 1 rfl (by first | exact .inl rfl | exact .inr (.inl rfl) | exact .inr (.inr rfl))) (x_callB call_len n_len (by rfl) b_len (by decide +kernel) (x_cons (x_var 0 rfl (by first | exact .inl rfl | exact .inr (.inl rfl) | exact .inr (.inr rfl))) x_nil)) (nomark _))
  (s_one (s_set (i := 2) sc__law_cell.nd rfl (by first | exact .inl rfl | exact .inr rfl) (x_ix (o_ix hz (hu65 hr)) s_ix (x_var 0 rfl (by first | exact .inl rfl | exact .inr (.inl rfl) | exact .inr (.inr rfl))) (x_var 1 rfl (by first | exact .inl rfl | exact .inr (.inl rfl) | exact .inr (.inr rfl))) (fun _ _ => rfl))))
  s_nil)
  (s_cons (s_if (t_cmp o_ge s_ord (x_var 2 rfl (by first | exact .inl rfl | exact .inr (.inl rfl) | exact .inr (.inr rfl))) (x_bin op_pow s_pow x_int x_int) (nomark _))
  (s_one (s_ret (x_bin op_mod s_mod (x_callTy call_int1 n_int (by rfl) b_int (by decide +kernel) (x_cons (x_bin op_sub s_sub (x_var 2 rfl (by first | exact .inl rfl | exact .inr (.inl rfl) | exact .inr (.inr rfl))) (x_bin op_pow s_pow x_int x_int)) x_nil)) (x_bin o_mul s_mul (x_bin o_mul s_mul (x_bin o_mul s_mul (x_bin op_pow s_pow x_int x_int) (x_bin op_pow s_pow x_int x_int)) (x_bin op_pow s_pow x_int x_int)) (x_bin op_pow s_pow x_int x_int)))))
  s_nil)
  (s_cons (s_set (i := 3) sc__law_cell.nd rfl (by first | exact .inl rfl | exact .inr rfl) x_int)
  (s_cons (s_for PassesOwn.never rfl (i_range1 (by rfl) b_range x_int) (g_one sc__law_cell.nd (i := 4) rfl (by first | exact .inl rfl | exact .inr rfl) (by first | exact .inl rfl | exact .inr rfl))
  (s_one (s_set (i := 3) sc__law_cell.nd rfl (by first | exact .inl rfl | exact .inr rfl) (x_bin o_add s_add (x_bin o_mul s_mul (x_var 3 rfl (by first | exact .inl rfl | exact .inr (.inl rfl) | exact .inr (.inr rfl))) x_int) (y_call d__law_mixed gd hr (by decide) (by rfl) (x_cons (x_var 2 rfl (by first | exact .inl rfl | exact .inr (.inl rfl) | exact .inr (.inr rfl))) (x_cons (x_bin o_add s_add (x_bin o_add s_add (x_bin o_mul s_mul x_int (x_var 1 rfl (by first | exact .inl rfl | exact .inr (.inl rfl) | exact .inr (.inr rfl)))) (x_bin o_mul s_mul x_int (x_var 4 rfl (by first | exact .inl rfl | exact .inr (.inl rfl) | exact .inr (.inr rfl))))) (x_bin o_mul s_mul (x_var 4 rfl (by first | exact .inl rfl | exact .inr (.inl rfl) | exact .inr (.inr rfl))) (x_var 4 rfl (by first | exact .inl rfl | exact .inr (.inl rfl) | exact .inr (.inr rfl))))) x_nil)))))))
  (s_one (s_ret (x_var 3 rfl (by first | exact .inl rfl | exact .inr (.inl rfl) | exact .inr (.inr rfl)))))))))) : SXs (cxOf CX0 P w K mg base ["script", "k", "cell", "found", "j"] "_law_cell" (defScope (topS 37)) f cdv A outer s H E).nox (clsK K) E0 (defBody (topS 37)) m__law_cell)
theorem sc__law_take : FnScope ["digits", "size", "digit"] ["digits", "size"] (defScope (topS 38)) := ⟨rfl, rfl, rfl, by decide +kernel, rfl, by decide +kernel, by decide +kernel⟩
theorem ok__law_take [Tb] {P : Program} {w : World} {K : PySem.W.Frag} {mg : Str → Option Value} {base : Heap} {f : Addr} {fd : FuncData} (F : Fun K "_law_take" "_law_take" (topS 38) f fd) (hz : Hz w) (b_int : mg "int" = none) : FnG P w K mg base CX0 1 f fd ["digits", "size"] (spM (clsK K) K 2 f__law_take) :=
  y_def F sc__law_take fun cdv A outer s H E gd hr =>
  ((s_cons (s_set (i := 2) sc__law_take.nd rfl (by first | exact .inl rfl | exact .inr rfl) (x_bin op_mod s_mod (x_callTy call_int1 n_int (by rfl) b_int (by decide +kernel) (x_cons (x_ix (o_ix hz (hu65 hr)) s_ix (x_var 0 rfl (by first | exact .inl rfl | exact .inr (.inl rfl) | exact .inr (.inr rfl))) x_int (fun _ _ => rfl)) x_nil)) (x_var 1 rfl (by first | exact .inl rfl | exact .inr (.inl rfl) | exact .inr (.inr rfl)))))
  (s_cons (s_setIx (x_bin op_fdivW s_div (x_ix (o_ix hz (hu65 hr)) s_ix (x_var 0 rfl (by first | exact .inl rfl | exact .inr (.inl rfl) | exact .inr (.inr rfl))) x_int (fun _ _ => rfl)) (x_var 1 rfl (by first | exact .inl rfl | exact .inr (.inl rfl) | exact .inr (.inr rfl)))) (x_var 0 rfl (by first | exact .inl rfl | exact .inr (.inl rfl) | exact .inr (.inr rfl))) x_int)
  (s_one (s_ret (x_var 2 rfl (by first | exact .inl rfl | exact .inr (.inl rfl) | exact .inr (.inr rfl))))))) : SXs (cxOf CX0 P w K mg base ["digits", "size", "digit"] "_law_take" (defScope (topS 38)) f cdv A outer s H E).nox (clsK K) E0 (defBody (topS 38)) m__law_take)
theorem sc__law_fields : FnScope ["digits", "many", "words", "found", "word", "value"] ["digits", "many"] (defScope (topS 39)) := ⟨rfl, rfl, rfl, by decide +kernel, rfl, by decide +kernel, by decide +kernel⟩
theorem ok__law_fields [Tb] {P : Program} {w : World} {K : PySem.W.Frag} {mg : Str → Option Value} {base : Heap} {f : Addr} {fd : FuncData} (F : Fun K "_law_fields" "_law_fields" (topS 39) f fd) (hz : Hz w) (b_tuple : mg "tuple" = none) (d__law_take : Df P w K mg base (clsK K) "_law_take" 1 ["digits", "size"] f__law_take) : FnG P w K mg base CX0 2 f fd ["digits", "many"] (spM (clsK K) K 2 f__law_fields_2) :=
  y_def F sc__law_fields fun cdv A outer s H E gd hr =>
  ((s_cons (s_setLc (own := [("word", 4)]) (i := 2) rfl sc__law_fields.nd rfl rfl (sw_true rfl rfl rfl (by decide +kernel)) (i_any (x_lstF (x_cons x_str (x_cons x_str (x_cons x_str (x_cons x_str x_nil)))))) (blkOk_by (N := ["digits", "many", "words", "found", "word", "value"]) (sc := defScope (topS 39)) (by decide +kernel)) (fun _ _ _ _ _ => (g_one sc__law_fields.nd (i := 4) rfl (by first | exact .inl rfl | exact .inr rfl) (by first | exact .inl rfl | exact .inr rfl))) (fun _ _ _ _ _ => c_one (t_cmp o_gt s_ord (y_call d__law_take gd hr (by decide) (by rfl) (x_cons (x_var 0 rfl (by first | exact .inl rfl | exact .inr (.inl rfl) | exact .inr (.inr rfl))) (x_cons x_int x_nil))) x_int (nomark _))) (fun _ _ _ _ _ => (x_var 4 rfl (by first | exact .inl rfl | exact .inr (.inl rfl) | exact .inr (.inr rfl)))) (by decide))
  (s_cons (s_set (i := 3) sc__law_fields.nd rfl (by first | exact .inl rfl | exact .inr rfl) (x_lstM x_nil))
  (s_cons (s_for PassesOwn.never rfl (i_any (x_var 2 rfl (by first | exact .inl rfl | exact .inr (.inl rfl) | exact .inr (.inr rfl)))) (g_one sc__law_fields.nd (i := 4) rfl (by first | exact .inl rfl | exact .inr rfl) (by first | exact .inl rfl | exact .inr rfl))
  (s_cons (s_set (i := 5) sc__law_fields.nd rfl (by first | exact .inl rfl | exact .inr rfl) (y_call d__law_take gd hr (by decide) (by rfl) (x_cons (x_var 0 rfl (by first | exact .inl rfl | exact .inr (.inl rfl) | exact .inr (.inr rfl))) (x_cons x_int x_nil))))
  (s_cons (s_if (t_cmp (o_eq2 (hu64 hr)) s_eq (y_call d__law_take gd hr (by decide) (by rfl) (x_cons (x_var 0 rfl (by first | exact .inl rfl | exact .inr (.inl rfl) | exact .inr (.inr rfl))) (x_cons x_int x_nil))) x_int (nomark _))
  (s_one (s_set (i := 5) sc__law_fields.nd rfl (by first | exact .inl rfl | exact .inr rfl) (x_tup (x_cons (y_call d__law_take gd hr (by decide) (by rfl) (x_cons (x_var 0 rfl (by first | exact .inl rfl | exact .inr (.inl rfl) | exact .inr (.inr rfl))) (x_cons (x_var 1 rfl (by first | exact .inl rfl | exact .inr (.inl rfl) | exact .inr (.inr rfl))) x_nil))) x_nil))))
  (s_one (s_if (t_cmp (o_eq2 (hu64 hr)) s_eq (y_call d__law_take gd hr (by decide) (by rfl) (x_cons (x_var 0 rfl (by first | exact .inl rfl | exact .inr (.inl rfl) | exact .inr (.inr rfl))) (x_cons x_int x_nil))) x_int (nomark _))
  (s_one (s_set (i := 5) sc__law_fields.nd rfl (by first | exact .inl rfl | exact .inr rfl) (x_bin op_sub s_sub (y_call d__law_take gd hr (by decide) (by rfl) (x_cons (x_var 0 rfl (by first | exact .inl rfl | exact .inr (.inl rfl) | exact .inr (.inr rfl))) (x_cons (x_bin op_sub s_sub (x_bin o_mul s_mul x_int (x_bin op_pow s_pow x_int x_int)) x_int) x_nil))) x_int)))
  s_nil)))
  (s_one (s_expr (x_append (x_var 3 rfl (by first | exact .inl rfl | exact .inr (.inl rfl) | exact .inr (.inr rfl))) (x_tup (x_cons (x_var 4 rfl (by first | exact .inl rfl | exact .inr (.inl rfl) | exact .inr (.inr rfl))) (x_cons (x_var 5 rfl (by first | exact .inl rfl | exact .inr (.inl rfl) | exact .inr (.inr rfl))) x_nil))) (hp := fun ho ha => pe_bm PySem.F.plainAttrs_list PySem.F.slot_list_append PySem.F.type_list_append mt_append ho ha)))))))
  (s_one (s_ret (x_callTy call_tupN n_tuple (by rfl) b_tuple (by decide +kernel) (x_cons (x_var 3 rfl (by first | exact .inl rfl | exact .inr (.inl rfl) | exact .inr (.inr rfl))) x_nil))))))) : SXs (cxOf CX0 P w K mg base ["digits", "many", "words", "found", "word", "value"] "_law_fields" (defScope (topS 39)) f cdv A outer s H E).nox (clsK K) E0 (defBody (topS 39)) m__law_fields_2)
theorem sc__law_web : FnScope ["digits", "most", "many", "objects", "k", "words", "kind", "word"] ["digits", "most"] (defScope (topS 40)) := ⟨rfl, rfl, rfl, by decide +kernel, rfl, by decide +kernel, by decide +kernel⟩
theorem ok__law_web [Tb] {P : Program} {w : World} {K : PySem.W.Frag} {mg : Str → Option Value} {base : Heap} {f : Addr} {fd : FuncData} (F : Fun K "_law_web" "_law_web" (topS 40) f fd) (hz : Hz w) (b_tuple : mg "tuple" = none) (b_range : mg "range" = none) (b_min : mg "min" = none) (d__law_take : Df P w K mg base (clsK K) "_law_take" 1 ["digits", "size"] f__law_take) (d__law_fields : Df P w K mg base (clsK K) "_law_fields" 2 ["digits", "many"] f__law_fields_2) : FnG P w K mg base CX0 3 f fd ["digits", "most"] (spM (clsK K) K 2 f__law_web_2) :=
  y_def F sc__law_web fun cdv A outer s H E gd hr =>
  ((s_cons (s_set (i := 2) sc__law_web.nd rfl (by first | exact .inl rfl | exact .inr rfl) (x_bin o_add s_add x_int (y_call d__law_take gd hr (by decide) (by rfl) (x_cons (x_var 0 rfl (by first | exact .inl rfl | exact .inr (.inl rfl) | exact .inr (.inr rfl))) (x_cons (x_var 1 rfl (by first | exact .inl rfl | exact .inr (.inl rfl) | exact .inr (.inr rfl))) x_nil)))))
  (s_cons (s_set (i := 3) sc__law_web.nd rfl (by first | exact .inl rfl | exact .inr rfl) (x_lstM x_nil))
  (s_cons (s_for PassesOwn.never rfl (i_range1 (by rfl) b_range (x_var 2 rfl (by first | exact .inl rfl | exact .inr (.inl rfl) | exact .inr (.inr rfl)))) (g_one sc__law_web.nd (i := 4) rfl (by first | exact .inl rfl | exact .inr rfl) (by first | exact .inl rfl | exact .inr rfl))
  (s_cons (s_set (i := 6) sc__law_web.nd rfl (by first | exact .inl rfl | exact .inr rfl) (x_ix (o_ix hz (hu65 hr)) s_ix (x_lstF (x_cons x_str (x_cons x_str x_nil))) (x_callB (call_min2 rfl) n_min2 (by rfl) b_min (by decide +kernel) (x_cons (y_call d__law_take gd hr (by decide) (by rfl) (x_cons (x_var 0 rfl (by first | exact .inl rfl | exact .inr (.inl rfl) | exact .inr (.inr rfl))) (x_cons x_int x_nil))) (x_cons x_int x_nil))) (fun _ _ => rfl)))
  (s_one (s_expr (x_append (x_var 3 rfl (by first | exact .inl rfl | exact .inr (.inl rfl) | exact .inr (.inr rfl))) (x_tup (x_cons (x_var 6 rfl (by first | exact .inl rfl | exact .inr (.inl rfl) | exact .inr (.inr rfl))) (x_cons (y_call d__law_fields gd hr (by decide) (by rfl) (x_cons (x_var 0 rfl (by first | exact .inl rfl | exact .inr (.inl rfl) | exact .inr (.inr rfl))) (x_cons (x_var 2 rfl (by first | exact .inl rfl | exact .inr (.inl rfl) | exact .inr (.inr rfl))) x_nil))) x_nil))) (hp := fun ho ha => pe_bm PySem.F.plainAttrs_list PySem.F.slot_list_append PySem.F.type_list_append mt_append ho ha))))))
  (s_cons (s_for PassesOwn.never rfl (i_range1 (by rfl) b_range (y_call d__law_take gd hr (by decide) (by rfl) (x_cons (x_var 0 rfl (by first | exact .inl rfl | exact .inr (.inl rfl) | exact .inr (.inr rfl))) (x_cons x_int x_nil)))) (g_one sc__law_web.nd (i := 4) rfl (by first | exact .inl rfl | exact .inr rfl) (by first | exact .inl rfl | exact .inr rfl))
  (s_one (s_setIx (x_ix (o_ix hz (hu65 hr)) s_ix (x_var 3 rfl (by first | exact .inl rfl | exact .inr (.inl rfl) | exact .inr (.inr rfl))) (y_call d__law_take gd hr (by decide) (by rfl) (x_cons (x_var 0 rfl (by first | exact .inl rfl | exact .inr (.inl rfl) | exact .inr (.inr rfl))) (x_cons (x_var 2 rfl (by first | exact .inl rfl | exact .inr (.inl rfl) | exact .inr (.inr rfl))) x_nil))) (fun _ _ => rfl)) (x_var 3 rfl (by first | exact .inl rfl | exact .inr (.inl rfl) | exact .inr (.inr rfl))) (y_call d__law_take gd hr (by decide) (by rfl) (x_cons (x_var 0 rfl (by first | exact .inl rfl | exact .inr (.inl rfl) | exact .inr (.inr rfl))) (x_cons (x_var 2 rfl (by first | exact .inl rfl | exact .inr (.inl rfl) | exact .inr (.inr rfl))) x_nil))))))
  (s_cons (s_set (i := 5) sc__law_web.nd rfl (by first | exact .inl rfl | exact .inr rfl) (x_slice (x_lstF (x_cons x_str (x_cons x_str (x_cons x_str (x_cons x_str (x_cons x_str (x_cons x_str x_nil))))))) x_onone (x_osome (x_bin o_add s_add x_int (y_call d__law_take gd hr (by decide) (by rfl) (x_cons (x_var 0 rfl (by first | exact .inl rfl | exact .inr (.inl rfl) | exact .inr (.inr rfl))) (x_cons x_int x_nil)))))))
  (s_one (s_ret (x_tup (x_cons (x_callTy call_tupN n_tuple (by rfl) b_tuple (by decide +kernel) (x_cons (x_var 3 rfl (by first | exact .inl rfl | exact .inr (.inl rfl) | exact .inr (.inr rfl))) x_nil)) (x_cons (x_callTy call_tupN n_tuple (by rfl) b_tuple (by decide +kernel) (x_cons (x_lc (own := [("word", 7)]) rfl sc__law_web.nd (i_any (x_var 5 rfl (by first | exact .inl rfl | exact .inr (.inl rfl) | exact .inr (.inr rfl)))) (blkOk_by (N := ["digits", "most", "many", "objects", "k", "words", "kind", "word"]) (sc := defScope (topS 40)) (by decide +kernel)) (fun _ _ _ _ _ => (g_one sc__law_web.nd (i := 7) rfl (by first | exact .inl rfl | exact .inr rfl) (by first | exact .inl rfl | exact .inr rfl))) (fun _ _ _ _ _ => c_nil) (fun _ _ _ _ _ => (x_tup (x_cons (x_var 7 rfl (by first | exact .inl rfl | exact .inr (.inl rfl) | exact .inr (.inr rfl))) (x_cons (y_call d__law_take gd hr (by decide) (by rfl) (x_cons (x_var 0 rfl (by first | exact .inl rfl | exact .inr (.inl rfl) | exact .inr (.inr rfl))) (x_cons (x_var 2 rfl (by first | exact .inl rfl | exact .inr (.inl rfl) | exact .inr (.inr rfl))) x_nil))) x_nil)))) (by decide)) x_nil)) x_nil)))))))))) : SXs (cxOf CX0 P w K mg base ["digits", "most", "many", "objects", "k", "words", "kind", "word"] "_law_web" (defScope (topS 40)) f cdv A outer s H E).nox (clsK K) E0 (defBody (topS 40)) m__law_web_2)
theorem sc__law_text : FnScope ["web", "rows", "kind", "fields", "words", "word", "value", "number"] ["web"] (defScope (topS 43)) := ⟨rfl, rfl, rfl, by decide +kernel, rfl, by decide +kernel, by decide +kernel⟩
theorem ok__law_text [Tb] {P : Program} {w : World} {K : PySem.W.Frag} {mg : Str → Option Value} {base : Heap} {f : Addr} {fd : FuncData} (F : Fun K "_law_text" "_law_text" (topS 43) f fd) (hz : Hz w) (b_isinstance : mg "isinstance" = none) (b_tuple : mg "tuple" = none) (b_str : mg "str" = none) : FnG P w K mg base CX0 1 f fd ["web"] (spM (clsK K) K 1 f__law_text) :=
  y_def F sc__law_text fun cdv A outer s H E gd hr =>
  ((s_cons (s_set (i := 1) sc__law_text.nd rfl (by first | exact .inl rfl | exact .inr rfl) (x_lstM (x_cons (x_join x_str (x_lc (own := [("word", 5), ("number", 7)]) rfl sc__law_text.nd (i_any (x_ix (o_ix hz (hu65 hr)) s_ix (x_var 0 rfl (by first | exact .inl rfl | exact .inr (.inl rfl) | exact .inr (.inr rfl))) x_int (fun _ _ => rfl))) (blkOk_by (N := ["web", "rows", "kind", "fields", "words", "word", "value", "number"]) (sc := defScope (topS 43)) (by decide +kernel)) (fun _ _ _ _ _ => (g_many rfl (g_cons (g_one sc__law_text.nd (i := 5) rfl (by first | exact .inl rfl | exact .inr rfl) (by first | exact .inl rfl | exact .inr rfl)) (g_cons (g_one sc__law_text.nd (i := 7) rfl (by first | exact .inl rfl | exact .inr rfl) (by first | exact .inl rfl | exact .inr rfl)) g_nil)))) (fun _ _ _ _ _ => c_nil) (fun _ _ _ _ _ => (x_bin o_add s_add (x_bin o_add s_add (x_var 5 rfl (by first | exact .inl rfl | exact .inr (.inl rfl) | exact .inr (.inr rfl))) x_str) (x_strOf gd hr (by rfl) b_str (x_var 7 rfl (by first | exact .inl rfl | exact .inr (.inl rfl) | exact .inr (.inr rfl)))))) (by decide))) x_nil)))
  (s_cons (s_for PassesOwn.never rfl (i_any (x_ix (o_ix hz (hu65 hr)) s_ix (x_var 0 rfl (by first | exact .inl rfl | exact .inr (.inl rfl) | exact .inr (.inr rfl))) x_int (fun _ _ => rfl))) (g_many rfl (g_cons (g_one sc__law_text.nd (i := 2) rfl (by first | exact .inl rfl | exact .inr rfl) (by first | exact .inl rfl | exact .inr rfl)) (g_cons (g_one sc__law_text.nd (i := 3) rfl (by first | exact .inl rfl | exact .inr rfl) (by first | exact .inl rfl | exact .inr rfl)) g_nil)))
  (s_cons (s_set (i := 4) sc__law_text.nd rfl (by first | exact .inl rfl | exact .inr rfl) (x_lstM (x_cons (x_var 2 rfl (by first | exact .inl rfl | exact .inr (.inl rfl) | exact .inr (.inr rfl))) x_nil)))
  (s_cons (s_for PassesOwn.never rfl (i_any (x_var 3 rfl (by first | exact .inl rfl | exact .inr (.inl rfl) | exact .inr (.inr rfl)))) (g_many rfl (g_cons (g_one sc__law_text.nd (i := 5) rfl (by first | exact .inl rfl | exact .inr rfl) (by first | exact .inl rfl | exact .inr rfl)) (g_cons (g_one sc__law_text.nd (i := 6) rfl (by first | exact .inl rfl | exact .inr rfl) (by first | exact .inl rfl | exact .inr rfl)) g_nil)))
  (s_one (s_expr (x_append (x_var 4 rfl (by first | exact .inl rfl | exact .inr (.inl rfl) | exact .inr (.inr rfl))) (x_bin o_add s_add (x_bin o_add s_add (x_var 5 rfl (by first | exact .inl rfl | exact .inr (.inl rfl) | exact .inr (.inr rfl))) x_str) (x_if (t_val (x_callB call_isi n_isi (by rfl) b_isinstance (by decide +kernel) (x_cons (x_var 6 rfl (by first | exact .inl rfl | exact .inr (.inl rfl) | exact .inr (.inr rfl))) (x_cons (x_ty (by rfl) b_tuple (by decide +kernel)) x_nil)))) (x_bin o_add s_add x_str (x_strOf gd hr (by rfl) b_str (x_ix (o_ix hz (hu65 hr)) s_ix (x_var 6 rfl (by first | exact .inl rfl | exact .inr (.inl rfl) | exact .inr (.inr rfl))) x_int (fun _ _ => rfl)))) (x_strOf gd hr (by rfl) b_str (x_var 6 rfl (by first | exact .inl rfl | exact .inr (.inl rfl) | exact .inr (.inr rfl)))))) (hp := fun ho ha => pe_bm PySem.F.plainAttrs_list PySem.F.slot_list_append PySem.F.type_list_append mt_append ho ha)))))
  (s_one (s_expr (x_append (x_var 1 rfl (by first | exact .inl rfl | exact .inr (.inl rfl) | exact .inr (.inr rfl))) (x_join x_str (x_var 4 rfl (by first | exact .inl rfl | exact .inr (.inl rfl) | exact .inr (.inr rfl)))) (hp := fun ho ha => pe_bm PySem.F.plainAttrs_list PySem.F.slot_list_append PySem.F.type_list_append mt_append ho ha)))))))
  (s_one (s_ret (x_join x_str (x_var 1 rfl (by first | exact .inl rfl | exact .inr (.inl rfl) | exact .inr (.inr rfl)))))))) : SXs (cxOf CX0 P w K mg base ["web", "rows", "kind", "fields", "words", "word", "value", "number"] "_law_text" (defScope (topS 43)) f cdv A outer s H E).nox (clsK K) E0 (defBody (topS 43)) m__law_text)
theorem sc__law_read : FnScope ["text"] ["text"] (defScope (topS 44)) := ⟨rfl, rfl, rfl, by decide +kernel, rfl, by decide +kernel, by decide +kernel⟩
theorem ok__law_read [Tb] {P : Program} {w : World} {K : PySem.W.Frag} {mg : Str → Option Value} {base : Heap} {f : Addr} {fd : FuncData} (F : Fun K "_law_read" "_law_read" (topS 44) f fd) (hz : Hz w) {C_InvalidText : Addr} (e_InvalidText : ErC K mg "InvalidText" C_InvalidText) (y_InvalidText : ∀ n ∈ (["InvalidText"] : List String), PySem.W.exmOne K (clsK K n) (.ref C_InvalidText) = some true) (x_read : DfX P w K mg base (clsK K) "read" 6 ["text"] f_read) : FnG P w K mg base CX0 7 f fd ["text"] (spM (clsK K) K 1 f__law_read) :=
  y_def F sc__law_read fun cdv A outer s H E gd hr =>
  ((s_one (s_tryV (cs := ["InvalidText"]) y_InvalidText rfl rfl ⟨by rfl, by decide, .inl e_InvalidText.g⟩
  (fun W pn xe tk => pe_tryCall x_read gd hr (by decide) (by rfl) (fun _ _ => (x_cons (x_var 0 rfl (by first | exact .inl rfl | exact .inr (.inl rfl) | exact .inr (.inr rfl))) x_nil)) (W := W) (pn := pn) (xe := xe) (tk := tk))
  (fun u pn => x_non))) : SXs (cxOf CX0 P w K mg base ["text"] "_law_read" (defScope (topS 44)) f cdv A outer s H E).nox (clsK K) E0 (defBody (topS 44)) m__law_read)
theorem sc__law_bent : FnScope ["digits", "text", "at", "sign", "some"] ["digits", "text"] (defScope (topS 45)) := ⟨rfl, rfl, rfl, by decide +kernel, rfl, by decide +kernel, by decide +kernel⟩
theorem ok__law_bent [Tb] {P : Program} {w : World} {K : PySem.W.Frag} {mg : Str → Option Value} {base : Heap} {f : Addr} {fd : FuncData} (F : Fun K "_law_bent" "_law_bent" (topS 45) f fd) (hz : Hz w) (b_len : mg "len" = none) (d__law_take : Df P w K mg base (clsK K) "_law_take" 1 ["digits", "size"] f__law_take) : FnG P w K mg base CX0 2 f fd ["digits", "text"] (spM (clsK K) K 2 f__law_bent_4) :=
  y_def F sc__law_bent fun cdv A outer s H E gd hr =>
  ((s_cons (s_set (i := 2) sc__law_bent.nd rfl (by first | exact .inl rfl | exact .inr rfl) (y_call d__law_take gd hr (by decide) (by rfl) (x_cons (x_var 0 rfl (by first | exact .inl rfl | exact .inr (.inl rfl) | exact .inr (.inr rfl))) (x_cons (x_bin o_add s_add (x_callB call_len n_len (by rfl) b_len (by decide +kernel) (x_cons (x_var 1 rfl (by first | exact .inl rfl | exact .inr (.inl rfl) | exact .inr (.inr rfl))) x_nil)) x_int) x_nil))))
  (s_setK (i := 3) sc__law_bent.nd rfl (by first | exact .inl rfl | exact .inr rfl) (k_ix (o_ix hz (hu65 hr)) s_ix (k_lst (x_cons x_str (x_cons x_str (x_cons x_str (x_cons x_str (x_cons x_str (x_cons x_str (x_cons x_str (x_cons x_str (x_cons (x_bin op_mulS s_mulS x_str x_int) (x_cons x_str (x_cons x_str (x_cons x_str (x_cons x_str x_nil)))))))))))))) (y_call d__law_take gd hr (by decide) (by rfl) (x_cons (x_var 0 rfl (by first | exact .inl rfl | exact .inr (.inl rfl) | exact .inr (.inr rfl))) (x_cons x_int x_nil))) (fun _ _ => rfl))
  (st_cons (st_of (s_set (i := 4) sc__law_bent.nd rfl (by first | exact .inl rfl | exact .inr rfl) (x_lstF (x_cons (x_bin o_add s_add (x_bin o_add s_add (x_sliceS (x_var 1 rfl (by first | exact .inl rfl | exact .inr (.inl rfl) | exact .inr (.inr rfl))) x_onone (x_osome (x_var 2 rfl (by first | exact .inl rfl | exact .inr (.inl rfl) | exact .inr (.inr rfl))))) (x_var 3 rfl (by first | exact .inl rfl | exact .inr (.inl rfl) | exact .inr (.inr rfl)))) (x_sliceS (x_var 1 rfl (by first | exact .inl rfl | exact .inr (.inl rfl) | exact .inr (.inr rfl))) (x_osome (x_var 2 rfl (by first | exact .inl rfl | exact .inr (.inl rfl) | exact .inr (.inr rfl)))) x_onone)) (x_cons (x_bin o_add s_add (x_bin o_add s_add (x_sliceS (x_var 1 rfl (by first | exact .inl rfl | exact .inr (.inl rfl) | exact .inr (.inr rfl))) x_onone (x_osome (x_var 2 rfl (by first | exact .inl rfl | exact .inr (.inl rfl) | exact .inr (.inr rfl))))) (x_var 3 rfl (by first | exact .inl rfl | exact .inr (.inl rfl) | exact .inr (.inr rfl)))) (x_sliceS (x_var 1 rfl (by first | exact .inl rfl | exact .inr (.inl rfl) | exact .inr (.inr rfl))) (x_osome (x_bin o_add s_add (x_var 2 rfl (by first | exact .inl rfl | exact .inr (.inl rfl) | exact .inr (.inr rfl))) x_int)) x_onone)) (x_cons (x_bin o_add s_add (x_sliceS (x_var 1 rfl (by first | exact .inl rfl | exact .inr (.inl rfl) | exact .inr (.inr rfl))) (x_osome (x_var 2 rfl (by first | exact .inl rfl | exact .inr (.inl rfl) | exact .inr (.inr rfl)))) x_onone) (x_sliceS (x_var 1 rfl (by first | exact .inl rfl | exact .inr (.inl rfl) | exact .inr (.inr rfl))) x_onone (x_osome (x_var 2 rfl (by first | exact .inl rfl | exact .inr (.inl rfl) | exact .inr (.inr rfl)))))) x_nil))))))
  (st_cons (st_set (i := 4) sc__law_bent.nd rfl (by first | exact .inl rfl | exact .inr rfl) (xt_bin o_add s_add (xt (x_var 4 rfl (by first | exact .inl rfl | exact .inr (.inl rfl) | exact .inr (.inr rfl)))) (xt_lstF (xt_cons (xt_bin o_add s_add (xt (x_var 1 rfl (by first | exact .inl rfl | exact .inr (.inl rfl) | exact .inr (.inr rfl)))) (xt (x_var 3 rfl (by first | exact .inl rfl | exact .inr (.inl rfl) | exact .inr (.inr rfl)))))
  (xt_cons (xt (x_sliceS (x_var 1 rfl (by first | exact .inl rfl | exact .inr (.inl rfl) | exact .inr (.inr rfl))) x_onone (x_osome (x_var 2 rfl (by first | exact .inl rfl | exact .inr (.inl rfl) | exact .inr (.inr rfl))))))
  (xt_cons (xt_rep1 (xt (x_var 1 rfl (by first | exact .inl rfl | exact .inr (.inl rfl) | exact .inr (.inr rfl)))))
  (xt_cons (xt_repC (xt (x_var 1 rfl (by first | exact .inl rfl | exact .inr (.inl rfl) | exact .inr (.inr rfl)))))
  xt_nil)))))))
  (sts_of (s_one (s_ret (x_ix (o_ix hz (hu65 hr)) s_ix (x_bin o_add s_add (x_var 4 rfl (by first | exact .inl rfl | exact .inr (.inl rfl) | exact .inr (.inr rfl))) (x_lstF (x_cons (x_upper (x_var 1 rfl (by first | exact .inl rfl | exact .inr (.inl rfl) | exact .inr (.inr rfl)))) x_nil))) (y_call d__law_take gd hr (by decide) (by rfl) (x_cons (x_var 0 rfl (by first | exact .inl rfl | exact .inr (.inl rfl) | exact .inr (.inr rfl))) (x_cons x_int x_nil))) (fun _ _ => rfl))))))))) : SXs (cxOf CX0 P w K mg base ["digits", "text", "at", "sign", "some"] "_law_bent" (defScope (topS 45)) f cdv A outer s H E).nox (clsK K) E0 (defBody (topS 45)) m__law_bent_4)
theorem sc__law_refused : FnScope ["thing"] ["thing"] (defScope (topS 46)) := ⟨rfl, rfl, rfl, by decide +kernel, rfl, by decide +kernel, by decide +kernel⟩
theorem ok__law_refused [Tb] {P : Program} {w : World} {K : PySem.W.Frag} {mg : Str → Option Value} {base : Heap} {f : Addr} {fd : FuncData} (F : Fun K "_law_refused" "_law_refused" (topS 46) f fd) (hz : Hz w) {C_InvalidWeb : Addr} (e_InvalidWeb : ErC K mg "InvalidWeb" C_InvalidWeb) (y_InvalidWeb : ∀ n ∈ (["InvalidWeb"] : List String), PySem.W.exmOne K (clsK K n) (.ref C_InvalidWeb) = some true) (x_write : DfX P w K mg base (clsK K) "write" 7 ["web"] f_write) : FnG P w K mg base CX0 8 f fd ["thing"] (spM (clsK K) K 1 f__law_refused) :=
  y_def F sc__law_refused fun cdv A outer s H E gd hr =>
  ((s_one (s_tryF (cs := ["InvalidWeb"]) y_InvalidWeb rfl rfl ⟨by rfl, by decide, .inl e_InvalidWeb.g⟩
  (fun W pn xe tk => pe_tryCall x_write gd hr (by decide) (by rfl) (fun _ _ => (x_cons (x_var 0 rfl (by first | exact .inl rfl | exact .inr (.inl rfl) | exact .inr (.inr rfl))) x_nil)) (W := W) (pn := pn) (xe := xe) (tk := tk))
  (fun u pn => x_bl))) : SXs (cxOf CX0 P w K mg base ["thing"] "_law_refused" (defScope (topS 46)) f cdv A outer s H E).nox (clsK K) E0 (defBody (topS 46)) m__law_refused)
theorem sc__law_letters_good : FnScope ["many", "choices", "odd", "row", "full", "k"] [] (defScope (topS 47)) := ⟨rfl, rfl, rfl, by decide +kernel, rfl, by decide +kernel, by decide +kernel⟩
theorem ok__law_letters_good [Tb] {P : Program} {w : World} {K : PySem.W.Frag} {mg : Str → Option Value} {base : Heap} {f : Addr} {fd : FuncData} (F : Fun K "_law_letters_good" "_law_letters_good" (topS 47) f fd) (hz : Hz w) (b_tuple : mg "tuple" = none) (b_range : mg "range" = none) (d__law_read : Df P w K mg base (clsK K) "_law_read" 7 ["text"] f__law_read) (d_read__N : Df P w K mg base (clsK K) "read" 6 ["text"] f_read__N) (d__law_text : Df P w K mg base (clsK K) "_law_text" 1 ["web"] f__law_text) (d_write__N : Df P w K mg base (clsK K) "write" 7 ["web"] f_write__N) : FnG P w K mg base CX0 8 f fd [] (spM (clsK K) K 0 f__law_letters_good) :=
  y_def F sc__law_letters_good fun cdv A outer s H E gd hr =>
  ((s_cons (s_for PassesOwn.never rfl (i_any (x_lstF (x_cons x_int (x_cons x_int (x_cons x_int x_nil))))) (g_one sc__law_letters_good.nd (i := 0) rfl (by first | exact .inl rfl | exact .inr rfl) (by first | exact .inl rfl | exact .inr rfl))
  (s_cons (s_setLc (own := [("k", 5)]) (i := 3) rfl sc__law_letters_good.nd rfl rfl (sw_true rfl rfl rfl (by decide +kernel)) (i_range1 (by rfl) b_range (x_var 0 rfl (by first | exact .inl rfl | exact .inr (.inl rfl) | exact .inr (.inr rfl)))) (blkOk_by (N := ["many", "choices", "odd", "row", "full", "k"]) (sc := defScope (topS 47)) (by decide +kernel)) (fun _ _ _ _ _ => (g_one sc__law_letters_good.nd (i := 5) rfl (by first | exact .inl rfl | exact .inr rfl) (by first | exact .inl rfl | exact .inr rfl))) (fun _ _ _ _ _ => c_nil) (fun _ _ _ _ _ => (x_tup (x_cons x_str (x_cons (x_tup (x_cons (x_tup (x_cons x_str (x_cons (x_tup (x_cons (x_bin op_sub s_sub (x_bin op_sub s_sub (x_var 0 rfl (by first | exact .inl rfl | exact .inr (.inl rfl) | exact .inr (.inr rfl))) x_int) (x_var 5 rfl (by first | exact .inl rfl | exact .inr (.inl rfl) | exact .inr (.inr rfl)))) x_nil)) x_nil))) (x_cons (x_tup (x_cons x_str (x_cons (x_var 5 rfl (by first | exact .inl rfl | exact .inr (.inl rfl) | exact .inr (.inr rfl))) x_nil))) x_nil))) x_nil)))) (by decide))
  (s_cons (s_set (i := 4) sc__law_letters_good.nd rfl (by first | exact .inl rfl | exact .inr rfl) (x_tup (x_cons (x_callTy call_tupN n_tuple (by rfl) b_tuple (by decide +kernel) (x_cons (x_var 3 rfl (by first | exact .inl rfl | exact .inr (.inl rfl) | exact .inr (.inr rfl))) x_nil)) (x_cons (x_tup (x_cons (x_tup (x_cons x_str (x_cons x_int x_nil))) (x_cons (x_tup (x_cons x_str (x_cons (x_bin op_sub s_sub (x_var 0 rfl (by first | exact .inl rfl | exact .inr (.inl rfl) | exact .inr (.inr rfl))) x_int) x_nil))) x_nil))) x_nil))))
  (s_one (s_if (PW.pt (t_or (t_cmp (o_ne2 (hu64 hr)) s_ne (y_call d_write__N gd hr (by decide) (by rfl) (x_cons (x_var 4 rfl (by first | exact .inl rfl | exact .inr (.inl rfl) | exact .inr (.inr rfl))) x_nil)) (y_call d__law_text gd hr (by decide) (by rfl) (x_cons (x_var 4 rfl (by first | exact .inl rfl | exact .inr (.inl rfl) | exact .inr (.inr rfl))) x_nil)) (nomark _)) (t_or1 (t_cmp (o_ne2 (hu64 hr)) s_ne (y_call d_read__N gd hr (by decide) (by rfl) (x_cons (y_call d__law_text gd hr (by decide) (by rfl) (x_cons (x_var 4 rfl (by first | exact .inl rfl | exact .inr (.inl rfl) | exact .inr (.inr rfl))) x_nil)) x_nil)) (x_var 4 rfl (by first | exact .inl rfl | exact .inr (.inl rfl) | exact .inr (.inr rfl))) (nomark _)))))
  (s_one (s_ret x_bl))
  s_nil)))))
  (s_cons (s_set (i := 1) sc__law_letters_good.nd rfl (by first | exact .inl rfl | exact .inr rfl) (x_lstF (x_cons x_str (x_cons x_str (x_cons x_str (x_cons x_str x_nil))))))
  (s_cons (s_set (i := 1) sc__law_letters_good.nd rfl (by first | exact .inl rfl | exact .inr rfl) (x_bin o_add s_add (x_var 1 rfl (by first | exact .inl rfl | exact .inr (.inl rfl) | exact .inr (.inr rfl))) (x_lstF (x_cons x_str x_nil))))
  (s_cons (s_for PassesOwn.never rfl (i_any (x_var 1 rfl (by first | exact .inl rfl | exact .inr (.inl rfl) | exact .inr (.inr rfl)))) (g_one sc__law_letters_good.nd (i := 2) rfl (by first | exact .inl rfl | exact .inr rfl) (by first | exact .inl rfl | exact .inr rfl))
  (s_one (s_if (t_cmp o_isnot s_isnot (y_call d__law_read gd hr (by decide) (by rfl) (x_cons (x_var 2 rfl (by first | exact .inl rfl | exact .inr (.inl rfl) | exact .inr (.inr rfl))) x_nil)) x_non (nomark _))
  (s_one (s_ret x_bl))
  s_nil)))
  (s_one (s_ret x_bl)))))) : SXs (cxOf CX0 P w K mg base ["many", "choices", "odd", "row", "full", "k"] "_law_letters_good" (defScope (topS 47)) f cdv A outer s H E).nox (clsK K) E0 (defBody (topS 47)) m__law_letters_good)
theorem sc__law_fixed_good : FnScope ["fields", "some", "one", "odds", "value", "words", "objects", "k", "full", "good", "text", "odd", "word", "field"] [] (defScope (topS 48)) := ⟨rfl, rfl, rfl, by decide +kernel, rfl, by decide +kernel, by decide +kernel⟩
theorem ok__law_fixed_good [Tb] {P : Program} {w : World} {K : PySem.W.Frag} {mg : Str → Option Value} {base : Heap} {f : Addr} {fd : FuncData} (F : Fun K "_law_fixed_good" "_law_fixed_good" (topS 48) f fd) (hz : Hz w) (b_all : mg "all" = none) (b_tuple : mg "tuple" = none) (b_range : mg "range" = none) (d_write__N : Df P w K mg base (clsK K) "write" 7 ["web"] f_write__N) (d_read__N : Df P w K mg base (clsK K) "read" 6 ["text"] f_read__N) (d__law_read : Df P w K mg base (clsK K) "_law_read" 7 ["text"] f__law_read) (d__law_letters_good : Df P w K mg base (clsK K) "_law_letters_good" 8 [] f__law_letters_good) (d__law_text : Df P w K mg base (clsK K) "_law_text" 1 ["web"] f__law_text) (d__law_refused : Df P w K mg base (clsK K) "_law_refused" 8 ["thing"] f__law_refused) : FnG P w K mg base CX0 9 f fd [] (spM (clsK K) K 0 f__law_fixed_good) :=
  y_def F sc__law_fixed_good fun cdv A outer s H E gd hr =>
  ((s_cons (s_set (i := 0) sc__law_fixed_good.nd rfl (by first | exact .inl rfl | exact .inr rfl) (x_lstM (x_cons x_str (x_cons x_str (x_cons x_str (x_cons x_str (x_cons x_str (x_cons x_str (x_cons x_str (x_cons x_str (x_cons x_str x_nil)))))))))))
  (s_cons (s_set (i := 0) sc__law_fixed_good.nd rfl (by first | exact .inl rfl | exact .inr rfl) (x_bin o_add s_addM (x_var 0 rfl (by first | exact .inl rfl | exact .inr (.inl rfl) | exact .inr (.inr rfl))) (x_lstF (x_cons x_str (x_cons x_str (x_cons x_str x_nil))))))
  (s_cons (s_set (i := 1) sc__law_fixed_good.nd rfl (by first | exact .inl rfl | exact .inr rfl) (x_lstF (x_cons x_non (x_cons x_bl (x_cons x_int (x_cons (x_lstF x_nil) (x_cons (x_tup x_nil) (x_cons x_str (x_cons x_str (x_cons x_str (x_cons x_str (x_cons x_str (x_cons x_str (x_cons x_str x_nil))))))))))))))
  (s_cons (s_set (i := 0) sc__law_fixed_good.nd rfl (by first | exact .inl rfl | exact .inr rfl) (x_bin o_add s_addM (x_var 0 rfl (by first | exact .inl rfl | exact .inr (.inl rfl) | exact .inr (.inr rfl))) (x_lstF (x_cons x_str (x_cons x_str (x_cons (x_bin o_add s_add x_str (x_bin op_mulS2 s_mulS2 x_str x_int)) (x_cons (x_bin o_add s_add x_str (x_bin op_mulS2 s_mulS2 x_str x_int)) (x_cons x_str x_nil))))))))
  (s_cons (s_set (i := 0) sc__law_fixed_good.nd rfl (by first | exact .inl rfl | exact .inr rfl) (x_bin o_add s_addM (x_var 0 rfl (by first | exact .inl rfl | exact .inr (.inl rfl) | exact .inr (.inr rfl))) (x_lstF (x_cons x_str (x_cons x_str (x_cons x_str (x_cons x_str (x_cons x_str (x_cons x_str (x_cons x_str x_nil))))))))))
  (s_cons (s_expr (x_append (x_var 0 rfl (by first | exact .inl rfl | exact .inr (.inl rfl) | exact .inr (.inr rfl))) (x_bin o_add s_add (x_bin o_add s_add x_str (x_bin op_mulS s_mulS x_str x_int)) x_str) (hp := fun ho ha => pe_bm PySem.F.plainAttrs_list PySem.F.slot_list_append PySem.F.type_list_append mt_append ho ha)))
  (s_cons (s_set (i := 1) sc__law_fixed_good.nd rfl (by first | exact .inl rfl | exact .inr rfl) (x_bin o_add s_add (x_var 1 rfl (by first | exact .inl rfl | exact .inr (.inl rfl) | exact .inr (.inr rfl))) (x_lstF (x_cons x_str (x_cons x_str (x_cons (x_bin o_add s_add (x_bin o_add s_add x_str (x_bin op_mulS2 s_mulS2 x_str x_int)) x_str) x_nil))))))
  (s_cons (s_set (i := 1) sc__law_fixed_good.nd rfl (by first | exact .inl rfl | exact .inr rfl) (x_bin o_add s_add (x_var 1 rfl (by first | exact .inl rfl | exact .inr (.inl rfl) | exact .inr (.inr rfl))) (x_lstF (x_cons x_str (x_cons x_str (x_cons x_str (x_cons x_str (x_cons x_str x_nil))))))))
  (s_cons (s_set (i := 1) sc__law_fixed_good.nd rfl (by first | exact .inl rfl | exact .inr rfl) (x_bin o_add s_add (x_var 1 rfl (by first | exact .inl rfl | exact .inr (.inl rfl) | exact .inr (.inr rfl))) (x_lstF (x_cons (x_bin o_add s_add x_str (x_bin op_mulS s_mulS x_str x_int)) x_nil))))
  (s_cons (s_set (i := 1) sc__law_fixed_good.nd rfl (by first | exact .inl rfl | exact .inr rfl) (x_bin o_add s_add (x_var 1 rfl (by first | exact .inl rfl | exact .inr (.inl rfl) | exact .inr (.inr rfl))) (x_lstF (x_cons x_str (x_cons x_str (x_cons x_str (x_cons x_str (x_cons x_str (x_cons (x_lstF (x_cons x_str x_nil)) x_nil)))))))))
  (s_cons (s_set (i := 1) sc__law_fixed_good.nd rfl (by first | exact .inl rfl | exact .inr rfl) (x_bin o_add s_add (x_var 1 rfl (by first | exact .inl rfl | exact .inr (.inl rfl) | exact .inr (.inr rfl))) (x_lstF (x_cons x_str x_nil))))
  (s_cons (s_if (t_not (t_val (x_callB (cr_all rfl) n_all (by rfl) b_all (by decide +kernel) (x_cons (x_lc (own := [("odd", 11)]) rfl sc__law_fixed_good.nd (i_any (x_bin o_add s_add (x_var 1 rfl (by first | exact .inl rfl | exact .inr (.inl rfl) | exact .inr (.inr rfl))) (x_lcW (i := 0) (own := [("field", 13)]) (fin := finF) finF_ok rfl sc__law_fixed_good.nd rfl (by first | exact .inl rfl | exact .inr (.inl rfl) | exact .inr (.inr rfl)) (blkOk_by (N := ["fields", "some", "one", "odds", "value", "words", "objects", "k", "full", "good", "text", "odd", "word", "field"]) (sc := defScope (topS 48)) (by decide +kernel)) (fun _ _ _ _ _ => (g_one sc__law_fixed_good.nd (i := 13) rfl (by first | exact .inl rfl | exact .inr rfl) (by first | exact .inl rfl | exact .inr rfl))) (fun _ _ _ _ _ => c_nil) (fun _ _ _ _ _ => (x_bin o_add s_add x_str (x_var 13 rfl (by first | exact .inl rfl | exact .inr (.inl rfl) | exact .inr (.inr rfl))))) (by decide)))) (blkOk_by (N := ["fields", "some", "one", "odds", "value", "words", "objects", "k", "full", "good", "text", "odd", "word", "field"]) (sc := defScope (topS 48)) (by decide +kernel)) (fun _ _ _ _ _ => (g_one sc__law_fixed_good.nd (i := 11) rfl (by first | exact .inl rfl | exact .inr rfl) (by first | exact .inl rfl | exact .inr rfl))) (fun _ _ _ _ _ => c_nil) (fun _ _ _ _ _ => (x_cmp o_is s_is (y_call d__law_read gd hr (by decide) (by rfl) (x_cons (x_var 11 rfl (by first | exact .inl rfl | exact .inr (.inl rfl) | exact .inr (.inr rfl))) x_nil)) x_non (nomark _))) (by decide)) x_nil))))
  (s_one (s_ret x_bl))
  s_nil)
  (s_cons (s_set (i := 2) sc__law_fixed_good.nd rfl (by first | exact .inl rfl | exact .inr rfl) (x_tup (x_cons x_str (x_cons (x_tup (x_cons (x_tup (x_cons x_str (x_cons x_int x_nil))) x_nil)) x_nil))))
  (s_cons (s_set (i := 3) sc__law_fixed_good.nd rfl (by first | exact .inl rfl | exact .inr rfl) (x_lstM (x_cons x_non (x_cons (x_tup x_nil) (x_cons x_str (x_cons (x_lstF x_nil) (x_cons (x_tup (x_cons (x_tup (x_cons (x_var 2 rfl (by first | exact .inl rfl | exact .inr (.inl rfl) | exact .inr (.inr rfl))) x_nil)) (x_cons (x_tup (x_cons (x_tup (x_cons x_str (x_cons x_int x_nil))) x_nil)) x_nil))) (x_cons (x_tup (x_cons (x_tup (x_cons (x_var 2 rfl (by first | exact .inl rfl | exact .inr (.inl rfl) | exact .inr (.inr rfl))) x_nil)) (x_cons (x_tup (x_cons (x_tup (x_cons x_str (x_cons x_int x_nil))) x_nil)) x_nil))) (x_cons (x_tup (x_cons (x_bin o_mul s_mul (x_tup (x_cons (x_var 2 rfl (by first | exact .inl rfl | exact .inr (.inl rfl) | exact .inr (.inr rfl))) x_nil)) x_int) (x_cons (x_tup (x_cons (x_tup (x_cons x_str (x_cons x_int x_nil))) x_nil)) x_nil))) x_nil)))))))))
  (s_cons (s_for PassesOwn.never rfl (i_any (x_lstF (x_cons (x_tup (x_cons x_int x_nil)) (x_cons x_bl (x_cons (x_bin op_pow s_pow x_int x_int) (x_cons x_non x_nil)))))) (g_one sc__law_fixed_good.nd (i := 4) rfl (by first | exact .inl rfl | exact .inr rfl) (by first | exact .inl rfl | exact .inr rfl))
  (s_one (s_expr (x_append (x_var 3 rfl (by first | exact .inl rfl | exact .inr (.inl rfl) | exact .inr (.inr rfl))) (x_tup (x_cons (x_tup (x_cons (x_tup (x_cons x_str (x_cons (x_tup (x_cons (x_tup (x_cons x_str (x_cons (x_var 4 rfl (by first | exact .inl rfl | exact .inr (.inl rfl) | exact .inr (.inr rfl))) x_nil))) x_nil)) x_nil))) x_nil)) (x_cons (x_tup (x_cons (x_tup (x_cons x_str (x_cons x_int x_nil))) x_nil)) x_nil))) (hp := fun ho ha => pe_bm PySem.F.plainAttrs_list PySem.F.slot_list_append PySem.F.type_list_append mt_append ho ha)))))
  (s_cons (s_if (t_not (t_val (x_callB (cr_all rfl) n_all (by rfl) b_all (by decide +kernel) (x_cons (x_lcW (i := 3) (own := [("odd", 11)]) (fin := finF) finF_ok rfl sc__law_fixed_good.nd rfl (by first | exact .inl rfl | exact .inr (.inl rfl) | exact .inr (.inr rfl)) (blkOk_by (N := ["fields", "some", "one", "odds", "value", "words", "objects", "k", "full", "good", "text", "odd", "word", "field"]) (sc := defScope (topS 48)) (by decide +kernel)) (fun _ _ _ _ _ => (g_one sc__law_fixed_good.nd (i := 11) rfl (by first | exact .inl rfl | exact .inr rfl) (by first | exact .inl rfl | exact .inr rfl))) (fun _ _ _ _ _ => c_nil) (fun _ _ _ _ _ => (y_call d__law_refused gd hr (by decide) (by rfl) (x_cons (x_var 11 rfl (by first | exact .inl rfl | exact .inr (.inl rfl) | exact .inr (.inr rfl))) x_nil))) (by decide)) x_nil))))
  (s_one (s_ret x_bl))
  s_nil)
  (s_cons (s_set (i := 5) sc__law_fixed_good.nd rfl (by first | exact .inl rfl | exact .inr rfl) (x_lstF (x_cons (x_bin op_mulS s_mulS x_str x_int) (x_cons (x_bin op_mulS s_mulS x_str x_int) (x_cons x_str (x_cons x_str (x_cons (x_bin op_mulS s_mulS x_str x_int) (x_cons (x_bin op_mulS s_mulS x_str x_int) x_nil))))))))
  (s_cons (s_set (i := 6) sc__law_fixed_good.nd rfl (by first | exact .inl rfl | exact .inr rfl) (x_lstM x_nil))
  (s_cons (s_for PassesOwn.never rfl (i_range1 (by rfl) b_range x_int) (g_one sc__law_fixed_good.nd (i := 7) rfl (by first | exact .inl rfl | exact .inr rfl) (by first | exact .inl rfl | exact .inr rfl))
  (s_one (s_expr (x_append (x_var 6 rfl (by first | exact .inl rfl | exact .inr (.inl rfl) | exact .inr (.inr rfl))) (x_tup (x_cons x_str (x_cons (x_tup (x_cons (x_tup (x_cons x_str (x_cons (x_un un_neg s_neg x_int) x_nil))) (x_cons (x_tup (x_cons x_str (x_cons (x_tup (x_cons (x_bin op_sub s_sub x_int (x_var 7 rfl (by first | exact .inl rfl | exact .inr (.inl rfl) | exact .inr (.inr rfl)))) x_nil)) x_nil))) (x_cons (x_tup (x_cons x_str (x_cons x_int x_nil))) (x_cons (x_tup (x_cons x_str (x_cons (x_tup (x_cons (x_var 7 rfl (by first | exact .inl rfl | exact .inr (.inl rfl) | exact .inr (.inr rfl))) x_nil)) x_nil))) x_nil))))) x_nil))) (hp := fun ho ha => pe_bm PySem.F.plainAttrs_list PySem.F.slot_list_append PySem.F.type_list_append mt_append ho ha)))))
  (s_cons (s_set (i := 8) sc__law_fixed_good.nd rfl (by first | exact .inl rfl | exact .inr rfl) (x_tup (x_cons (x_callTy call_tupN n_tuple (by rfl) b_tuple (by decide +kernel) (x_cons (x_var 6 rfl (by first | exact .inl rfl | exact .inr (.inl rfl) | exact .inr (.inr rfl))) x_nil)) (x_cons (x_callTy call_tupN n_tuple (by rfl) b_tuple (by decide +kernel) (x_cons (x_lc (own := [("word", 12)]) rfl sc__law_fixed_good.nd (i_any (x_var 5 rfl (by first | exact .inl rfl | exact .inr (.inl rfl) | exact .inr (.inr rfl)))) (blkOk_by (N := ["fields", "some", "one", "odds", "value", "words", "objects", "k", "full", "good", "text", "odd", "word", "field"]) (sc := defScope (topS 48)) (by decide +kernel)) (fun _ _ _ _ _ => (g_one sc__law_fixed_good.nd (i := 12) rfl (by first | exact .inl rfl | exact .inr rfl) (by first | exact .inl rfl | exact .inr rfl))) (fun _ _ _ _ _ => c_nil) (fun _ _ _ _ _ => (x_tup (x_cons (x_var 12 rfl (by first | exact .inl rfl | exact .inr (.inl rfl) | exact .inr (.inr rfl))) (x_cons x_int x_nil)))) (by decide)) x_nil)) x_nil))))
  (s_cons (s_if (PW.pt (t_or (t_cmp (o_ne2 (hu64 hr)) s_ne (y_call d_write__N gd hr (by decide) (by rfl) (x_cons (x_var 8 rfl (by first | exact .inl rfl | exact .inr (.inl rfl) | exact .inr (.inr rfl))) x_nil)) (y_call d__law_text gd hr (by decide) (by rfl) (x_cons (x_var 8 rfl (by first | exact .inl rfl | exact .inr (.inl rfl) | exact .inr (.inr rfl))) x_nil)) (nomark _)) (t_or1 (t_cmp (o_ne2 (hu64 hr)) s_ne (y_call d_read__N gd hr (by decide) (by rfl) (x_cons (y_call d__law_text gd hr (by decide) (by rfl) (x_cons (x_var 8 rfl (by first | exact .inl rfl | exact .inr (.inl rfl) | exact .inr (.inr rfl))) x_nil)) x_nil)) (x_var 8 rfl (by first | exact .inl rfl | exact .inr (.inl rfl) | exact .inr (.inr rfl))) (nomark _)))))
  (s_one (s_ret x_bl))
  s_nil)
  (s_cons (s_if (t_not (t_val (y_call0 d__law_letters_good gd hr (by decide) (by rfl))))
  (s_one (s_ret x_bl))
  s_nil)
  (s_cons (s_set (i := 9) sc__law_fixed_good.nd rfl (by first | exact .inl rfl | exact .inr rfl) (x_lstF (x_cons x_str (x_cons x_str (x_cons x_str x_nil)))))
  (s_one (s_ret (x_callB (cr_all rfl) n_all (by rfl) b_all (by decide +kernel) (x_cons (x_lc (own := [("text", 10)]) rfl sc__law_fixed_good.nd (i_any (x_var 9 rfl (by first | exact .inl rfl | exact .inr (.inl rfl) | exact .inr (.inr rfl)))) (blkOk_by (N := ["fields", "some", "one", "odds", "value", "words", "objects", "k", "full", "good", "text", "odd", "word", "field"]) (sc := defScope (topS 48)) (by decide +kernel)) (fun _ _ _ _ _ => (g_one sc__law_fixed_good.nd (i := 10) rfl (by first | exact .inl rfl | exact .inr rfl) (by first | exact .inl rfl | exact .inr rfl))) (fun _ _ _ _ _ => c_nil) (fun _ _ _ _ _ => (x_and (x_cmp o_isnot s_isnot (y_call d__law_read gd hr (by decide) (by rfl) (x_cons (x_var 10 rfl (by first | exact .inl rfl | exact .inr (.inl rfl) | exact .inr (.inr rfl))) x_nil)) x_non (nomark _)) (x_one (x_cmp (o_eq2 (hu64 hr)) s_eq (y_call d_write__N gd hr (by decide) (by rfl) (x_cons (y_call d_read__N gd hr (by decide) (by rfl) (x_cons (x_var 10 rfl (by first | exact .inl rfl | exact .inr (.inl rfl) | exact .inr (.inr rfl))) x_nil)) x_nil)) (x_var 10 rfl (by first | exact .inl rfl | exact .inr (.inl rfl) | exact .inr (.inr rfl))) (nomark _))))) (by decide)) x_nil))))))))))))))))))))))))))) : SXs (cxOf CX0 P w K mg base ["fields", "some", "one", "odds", "value", "words", "objects", "k", "full", "good", "text", "odd", "word", "field"] "_law_fixed_good" (defScope (topS 48)) f cdv A outer s H E).nox (clsK K) E0 (defBody (topS 48)) m__law_fixed_good)
theorem sc_law : FnScope ["script", "turn", "digits", "k", "web", "text", "j", "bent", "found"] ["script"] (defScope (topS 49)) := ⟨rfl, rfl, rfl, by decide +kernel, rfl, by decide +kernel, by decide +kernel⟩
theorem ok_law [Tb] {P : Program} {w : World} {K : PySem.W.Frag} {mg : Str → Option Value} {base : Heap} {f : Addr} {fd : FuncData} (F : Fun K "law" "law" (topS 49) f fd) (hz : Hz w) (b_range : mg "range" = none) (b_max : mg "max" = none) (b_min : mg "min" = none) (b_len : mg "len" = none) (d__law_fixed_good : Df P w K mg base (clsK K) "_law_fixed_good" 9 [] f__law_fixed_good) (d__law_text : Df P w K mg base (clsK K) "_law_text" 1 ["web"] f__law_text) (d_write__N : Df P w K mg base (clsK K) "write" 7 ["web"] f_write__N) (d_is_web : Df P w K mg base (clsK K) "is_web" 5 ["value"] f_is_web) (d__law_read : Df P w K mg base (clsK K) "_law_read" 7 ["text"] f__law_read) (d__law_bent : Df P w K mg base (clsK K) "_law_bent" 2 ["digits", "text"] f__law_bent_4) (d_read__N : Df P w K mg base (clsK K) "read" 6 ["text"] f_read__N) (d__law_web : Df P w K mg base (clsK K) "_law_web" 3 ["digits", "most"] f__law_web_2) (d__law_cell : Df P w K mg base (clsK K) "_law_cell" 2 ["script", "k"] f__law_cell) : FnG P w K mg base CX0 10 f fd ["script"] (spM (clsK K) K 1 f_law_25) :=
  y_def F sc_law fun cdv A outer s H E gd hr =>
  ((s_cons (s_for PassesOwn.never rfl (i_range1 (by rfl) b_range (x_callB (call_max2 rfl) n_max2 (by rfl) b_max (by decide +kernel) (x_cons (x_callB (call_min2 rfl) n_min2 (by rfl) b_min (by decide +kernel) (x_cons (x_callB call_len n_len (by rfl) b_len (by decide +kernel) (x_cons (x_var 0 rfl (by first | exact .inl rfl | exact .inr (.inl rfl) | exact .inr (.inr rfl))) x_nil)) (x_cons x_int x_nil))) (x_cons x_int x_nil)))) (g_one sc_law.nd (i := 1) rfl (by first | exact .inl rfl | exact .inr rfl) (by first | exact .inl rfl | exact .inr rfl))
  (s_cons (s_set (i := 2) sc_law.nd rfl (by first | exact .inl rfl | exact .inr rfl) (x_lstM (x_cons (y_call d__law_cell gd hr (by decide) (by rfl) (x_cons (x_var 0 rfl (by first | exact .inl rfl | exact .inr (.inl rfl) | exact .inr (.inr rfl))) (x_cons (x_var 1 rfl (by first | exact .inl rfl | exact .inr (.inl rfl) | exact .inr (.inr rfl))) x_nil))) x_nil)))
  (s_one (s_for PassesOwn.never rfl (i_range1 (by rfl) b_range x_int) (g_one sc_law.nd (i := 3) rfl (by first | exact .inl rfl | exact .inr rfl) (by first | exact .inl rfl | exact .inr rfl))
  (s_cons (s_set (i := 4) sc_law.nd rfl (by first | exact .inl rfl | exact .inr rfl) (y_call d__law_web gd hr (by decide) (by rfl) (x_cons (x_var 2 rfl (by first | exact .inl rfl | exact .inr (.inl rfl) | exact .inr (.inr rfl))) (x_cons x_int x_nil))))
  (s_cons (s_set (i := 5) sc_law.nd rfl (by first | exact .inl rfl | exact .inr rfl) (y_call d__law_text gd hr (by decide) (by rfl) (x_cons (x_var 4 rfl (by first | exact .inl rfl | exact .inr (.inl rfl) | exact .inr (.inr rfl))) x_nil)))
  (s_cons (s_if (PW.pt (t_or (t_cmp (o_ne2 (hu64 hr)) s_ne (y_call d_write__N gd hr (by decide) (by rfl) (x_cons (x_var 4 rfl (by first | exact .inl rfl | exact .inr (.inl rfl) | exact .inr (.inr rfl))) x_nil)) (x_var 5 rfl (by first | exact .inl rfl | exact .inr (.inl rfl) | exact .inr (.inr rfl))) (nomark _)) (t_or1 (t_cmp (o_ne2 (hu64 hr)) s_ne (y_call d_read__N gd hr (by decide) (by rfl) (x_cons (x_var 5 rfl (by first | exact .inl rfl | exact .inr (.inl rfl) | exact .inr (.inr rfl))) x_nil)) (x_var 4 rfl (by first | exact .inl rfl | exact .inr (.inl rfl) | exact .inr (.inr rfl))) (nomark _)))))
  (s_one (s_ret x_bl))
  s_nil)
  (s_one (s_for PassesOwn.never rfl (i_range1 (by rfl) b_range x_int) (g_one sc_law.nd (i := 6) rfl (by first | exact .inl rfl | exact .inr rfl) (by first | exact .inl rfl | exact .inr rfl))
  (s_cons (s_set (i := 7) sc_law.nd rfl (by first | exact .inl rfl | exact .inr rfl) (y_call d__law_bent gd hr (by decide) (by rfl) (x_cons (x_var 2 rfl (by first | exact .inl rfl | exact .inr (.inl rfl) | exact .inr (.inr rfl))) (x_cons (x_var 5 rfl (by first | exact .inl rfl | exact .inr (.inl rfl) | exact .inr (.inr rfl))) x_nil))))
  (s_cons (s_set (i := 8) sc_law.nd rfl (by first | exact .inl rfl | exact .inr rfl) (y_call d__law_read gd hr (by decide) (by rfl) (x_cons (x_var 7 rfl (by first | exact .inl rfl | exact .inr (.inl rfl) | exact .inr (.inr rfl))) x_nil)))
  (s_cons (s_if (PW.pt (t_and (t_cmp o_is s_is (x_var 8 rfl (by first | exact .inl rfl | exact .inr (.inl rfl) | exact .inr (.inr rfl))) x_non (nomark _)) (t_and1 (t_cmp (o_eq2 (hu64 hr)) s_eq (x_var 7 rfl (by first | exact .inl rfl | exact .inr (.inl rfl) | exact .inr (.inr rfl))) (x_var 5 rfl (by first | exact .inl rfl | exact .inr (.inl rfl) | exact .inr (.inr rfl))) (nomark _)))))
  (s_one (s_ret x_bl))
  s_nil)
  (s_one (s_if (t_cmp o_isnot s_isnot (x_var 8 rfl (by first | exact .inl rfl | exact .inr (.inl rfl) | exact .inr (.inr rfl))) x_non (nomark _))
  (s_one (s_if (PW.pt (t_or (t_not (t_val (y_call d_is_web gd hr (by decide) (by rfl) (x_cons (x_var 8 rfl (by first | exact .inl rfl | exact .inr (.inl rfl) | exact .inr (.inr rfl))) x_nil)))) (t_or (t_cmp (o_ne2 (hu64 hr)) s_ne (y_call d_write__N gd hr (by decide) (by rfl) (x_cons (x_var 8 rfl (by first | exact .inl rfl | exact .inr (.inl rfl) | exact .inr (.inr rfl))) x_nil)) (x_var 7 rfl (by first | exact .inl rfl | exact .inr (.inl rfl) | exact .inr (.inr rfl))) (nomark _)) (t_or1 (t_cmp (o_ne2 (hu64 hr)) s_ne (y_call d__law_text gd hr (by decide) (by rfl) (x_cons (x_var 8 rfl (by first | exact .inl rfl | exact .inr (.inl rfl) | exact .inr (.inr rfl))) x_nil)) (x_var 7 rfl (by first | exact .inl rfl | exact .inr (.inl rfl) | exact .inr (.inr rfl))) (nomark _))))))
  (s_one (s_ret x_bl))
  s_nil))
  s_nil))))))))))))))
  (s_one (s_ret (y_call0 d__law_fixed_good gd hr (by decide) (by rfl))))) : SXs (cxOf CX0 P w K mg base ["script", "turn", "digits", "k", "web", "text", "j", "bent", "found"] "law" (defScope (topS 49)) f cdv A outer s H E).nox (clsK K) E0 (defBody (topS 49)) m_law_25)
theorem all_mk {l : PySem.W.OpenLaw} {w : World} {K : PySem.W.Frag} {h : Heap} {mg : Str → Option Value} {fa : Addr} (X : K.In h) (G : h.Ns mainGlobals mg) (hfa : mg "law" = some (.ref fa))
    {f12 : Addr} {od12 an12 : Option Addr} {sl12 : Array (Option Value)} {oc12 kV12 dc12 pm12 cd12 ct12 : Value}
    {f13 : Addr} {od13 an13 : Option Addr} {sl13 : Array (Option Value)} {oc13 kV13 dc13 pm13 cd13 ct13 : Value}
    {f14 : Addr} {od14 an14 : Option Addr} {sl14 : Array (Option Value)} {oc14 kV14 dc14 pm14 cd14 ct14 : Value}
    {f15 : Addr} {od15 an15 : Option Addr} {sl15 : Array (Option Value)} {oc15 kV15 dc15 pm15 cd15 ct15 : Value}
    {f16 : Addr} {od16 an16 : Option Addr} {sl16 : Array (Option Value)} {oc16 kV16 dc16 pm16 cd16 ct16 : Value}
    {f17 : Addr} {od17 an17 : Option Addr} {sl17 : Array (Option Value)} {oc17 kV17 dc17 pm17 cd17 ct17 : Value}
    {f18 : Addr} {od18 an18 : Option Addr} {sl18 : Array (Option Value)} {oc18 kV18 dc18 pm18 cd18 ct18 : Value}
    {f19 : Addr} {od19 an19 : Option Addr} {sl19 : Array (Option Value)} {oc19 kV19 dc19 pm19 cd19 ct19 : Value}
    {f20 : Addr} {od20 an20 : Option Addr} {sl20 : Array (Option Value)} {oc20 kV20 dc20 pm20 cd20 ct20 : Value}
    {f22 : Addr} {od22 an22 : Option Addr} {sl22 : Array (Option Value)} {oc22 kV22 dc22 pm22 cd22 ct22 : Value}
    {f23 : Addr} {od23 an23 : Option Addr} {sl23 : Array (Option Value)} {oc23 kV23 dc23 pm23 cd23 ct23 : Value}
    {f26 : Addr} {od26 an26 : Option Addr} {sl26 : Array (Option Value)} {oc26 kV26 dc26 pm26 cd26 ct26 : Value}
    {f27 : Addr} {od27 an27 : Option Addr} {sl27 : Array (Option Value)} {oc27 kV27 dc27 pm27 cd27 ct27 : Value}
    {f28 : Addr} {od28 an28 : Option Addr} {sl28 : Array (Option Value)} {oc28 kV28 dc28 pm28 cd28 ct28 : Value}
    {f29 : Addr} {od29 an29 : Option Addr} {sl29 : Array (Option Value)} {oc29 kV29 dc29 pm29 cd29 ct29 : Value}
    {f30 : Addr} {od30 an30 : Option Addr} {sl30 : Array (Option Value)} {oc30 kV30 dc30 pm30 cd30 ct30 : Value}
    {f31 : Addr} {od31 an31 : Option Addr} {sl31 : Array (Option Value)} {oc31 kV31 dc31 pm31 cd31 ct31 : Value}
    {f32 : Addr} {od32 an32 : Option Addr} {sl32 : Array (Option Value)} {oc32 kV32 dc32 pm32 cd32 ct32 : Value}
    {f33 : Addr} {od33 an33 : Option Addr} {sl33 : Array (Option Value)} {oc33 kV33 dc33 pm33 cd33 ct33 : Value}
    {f34 : Addr} {od34 an34 : Option Addr} {sl34 : Array (Option Value)} {oc34 kV34 dc34 pm34 cd34 ct34 : Value}
    {f36 : Addr} {od36 an36 : Option Addr} {sl36 : Array (Option Value)} {oc36 kV36 dc36 pm36 cd36 ct36 : Value}
    {f37 : Addr} {od37 an37 : Option Addr} {sl37 : Array (Option Value)} {oc37 kV37 dc37 pm37 cd37 ct37 : Value}
    {f38 : Addr} {od38 an38 : Option Addr} {sl38 : Array (Option Value)} {oc38 kV38 dc38 pm38 cd38 ct38 : Value}
    {f39 : Addr} {od39 an39 : Option Addr} {sl39 : Array (Option Value)} {oc39 kV39 dc39 pm39 cd39 ct39 : Value}
    {f40 : Addr} {od40 an40 : Option Addr} {sl40 : Array (Option Value)} {oc40 kV40 dc40 pm40 cd40 ct40 : Value}
    {f43 : Addr} {od43 an43 : Option Addr} {sl43 : Array (Option Value)} {oc43 kV43 dc43 pm43 cd43 ct43 : Value}
    {f44 : Addr} {od44 an44 : Option Addr} {sl44 : Array (Option Value)} {oc44 kV44 dc44 pm44 cd44 ct44 : Value}
    {f45 : Addr} {od45 an45 : Option Addr} {sl45 : Array (Option Value)} {oc45 kV45 dc45 pm45 cd45 ct45 : Value}
    {f46 : Addr} {od46 an46 : Option Addr} {sl46 : Array (Option Value)} {oc46 kV46 dc46 pm46 cd46 ct46 : Value}
    {f47 : Addr} {od47 an47 : Option Addr} {sl47 : Array (Option Value)} {oc47 kV47 dc47 pm47 cd47 ct47 : Value}
    {f48 : Addr} {od48 an48 : Option Addr} {sl48 : Array (Option Value)} {oc48 kV48 dc48 pm48 cd48 ct48 : Value}
    {f49 : Addr} {od49 an49 : Option Addr} {sl49 : Array (Option Value)} {oc49 kV49 dc49 pm49 cd49 ct49 : Value}
    {ka5 : Addr} {ks5 : Array (Option Value)} {kn5 : Nat} {t5_0 t5_1 : Tok}
    {t6 : Tok}
    {t7 : Tok}
    {t8 : Tok}
    {t9 : Tok}
    {t10 : Tok}
    {t11 : Tok}
    {t25 : Tok}
    {C_InvalidWeb : Addr}
    {C_InvalidText : Addr}
    (a12 : PySem.W.nsIn K mainGlobals "is_int" = some (some (.ref f12)))
    (l12 : K.lookup f12 = some ⟨oc12, od12, .func (PySem.W.fnOf "is_int" "is_int" (defArgs (topS 12)) (defBody (topS 12)) (defScope (topS 12)) .none kV12 dc12 pm12 an12 cd12 ct12), sl12⟩)
    (c12 : PySem.W.codeIn K cd12 "is_int" = true) (k12 : PySem.W.keepIn K (.ref f12) = true)
    (a13 : PySem.W.nsIn K mainGlobals "is_word" = some (some (.ref f13)))
    (l13 : K.lookup f13 = some ⟨oc13, od13, .func (PySem.W.fnOf "is_word" "is_word" (defArgs (topS 13)) (defBody (topS 13)) (defScope (topS 13)) .none kV13 dc13 pm13 an13 cd13 ct13), sl13⟩)
    (c13 : PySem.W.codeIn K cd13 "is_word" = true) (k13 : PySem.W.keepIn K (.ref f13) = true)
    (a14 : PySem.W.nsIn K mainGlobals "words_of" = some (some (.ref f14)))
    (l14 : K.lookup f14 = some ⟨oc14, od14, .func (PySem.W.fnOf "words_of" "words_of" (defArgs (topS 14)) (defBody (topS 14)) (defScope (topS 14)) .none kV14 dc14 pm14 an14 cd14 ct14), sl14⟩)
    (c14 : PySem.W.codeIn K cd14 "words_of" = true) (k14 : PySem.W.keepIn K (.ref f14) = true)
    (a15 : PySem.W.nsIn K mainGlobals "is_tuple" = some (some (.ref f15)))
    (l15 : K.lookup f15 = some ⟨oc15, od15, .func (PySem.W.fnOf "is_tuple" "is_tuple" (defArgs (topS 15)) (defBody (topS 15)) (defScope (topS 15)) .none kV15 dc15 pm15 an15 cd15 ct15), sl15⟩)
    (c15 : PySem.W.codeIn K cd15 "is_tuple" = true) (k15 : PySem.W.keepIn K (.ref f15) = true)
    (a16 : PySem.W.nsIn K mainGlobals "is_number" = some (some (.ref f16)))
    (l16 : K.lookup f16 = some ⟨oc16, od16, .func (PySem.W.fnOf "is_number" "is_number" (defArgs (topS 16)) (defBody (topS 16)) (defScope (topS 16)) .none kV16 dc16 pm16 an16 cd16 ct16), sl16⟩)
    (c16 : PySem.W.codeIn K cd16 "is_number" = true) (k16 : PySem.W.keepIn K (.ref f16) = true)
    (a17 : PySem.W.nsIn K mainGlobals "is_field_value" = some (some (.ref f17)))
    (l17 : K.lookup f17 = some ⟨oc17, od17, .func (PySem.W.fnOf "is_field_value" "is_field_value" (defArgs (topS 17)) (defBody (topS 17)) (defScope (topS 17)) .none kV17 dc17 pm17 an17 cd17 ct17), sl17⟩)
    (c17 : PySem.W.codeIn K cd17 "is_field_value" = true) (k17 : PySem.W.keepIn K (.ref f17) = true)
    (a18 : PySem.W.nsIn K mainGlobals "is_table" = some (some (.ref f18)))
    (l18 : K.lookup f18 = some ⟨oc18, od18, .func (PySem.W.fnOf "is_table" "is_table" (defArgs (topS 18)) (defBody (topS 18)) (defScope (topS 18)) .none kV18 dc18 pm18 an18 cd18 ct18), sl18⟩)
    (c18 : PySem.W.codeIn K cd18 "is_table" = true) (k18 : PySem.W.keepIn K (.ref f18) = true)
    (a19 : PySem.W.nsIn K mainGlobals "is_object" = some (some (.ref f19)))
    (l19 : K.lookup f19 = some ⟨oc19, od19, .func (PySem.W.fnOf "is_object" "is_object" (defArgs (topS 19)) (defBody (topS 19)) (defScope (topS 19)) .none kV19 dc19 pm19 an19 cd19 ct19), sl19⟩)
    (c19 : PySem.W.codeIn K cd19 "is_object" = true) (k19 : PySem.W.keepIn K (.ref f19) = true)
    (a20 : PySem.W.nsIn K mainGlobals "is_names" = some (some (.ref f20)))
    (l20 : K.lookup f20 = some ⟨oc20, od20, .func (PySem.W.fnOf "is_names" "is_names" (defArgs (topS 20)) (defBody (topS 20)) (defScope (topS 20)) .none kV20 dc20 pm20 an20 cd20 ct20), sl20⟩)
    (c20 : PySem.W.codeIn K cd20 "is_names" = true) (k20 : PySem.W.keepIn K (.ref f20) = true)
    (a22 : PySem.W.nsIn K mainGlobals "is_web" = some (some (.ref f22)))
    (l22 : K.lookup f22 = some ⟨oc22, od22, .func (PySem.W.fnOf "is_web" "is_web" (defArgs (topS 22)) (defBody (topS 22)) (defScope (topS 22)) .none kV22 dc22 pm22 an22 cd22 ct22), sl22⟩)
    (c22 : PySem.W.codeIn K cd22 "is_web" = true) (k22 : PySem.W.keepIn K (.ref f22) = true)
    (a23 : PySem.W.nsIn K mainGlobals "check_web" = some (some (.ref f23)))
    (l23 : K.lookup f23 = some ⟨oc23, od23, .func (PySem.W.fnOf "check_web" "check_web" (defArgs (topS 23)) (defBody (topS 23)) (defScope (topS 23)) .none kV23 dc23 pm23 an23 cd23 ct23), sl23⟩)
    (c23 : PySem.W.codeIn K cd23 "check_web" = true) (k23 : PySem.W.keepIn K (.ref f23) = true)
    (a26 : PySem.W.nsIn K mainGlobals "text_of_pair" = some (some (.ref f26)))
    (l26 : K.lookup f26 = some ⟨oc26, od26, .func (PySem.W.fnOf "text_of_pair" "text_of_pair" (defArgs (topS 26)) (defBody (topS 26)) (defScope (topS 26)) .none kV26 dc26 pm26 an26 cd26 ct26), sl26⟩)
    (c26 : PySem.W.codeIn K cd26 "text_of_pair" = true) (k26 : PySem.W.keepIn K (.ref f26) = true)
    (a27 : PySem.W.nsIn K mainGlobals "text_of_pairs" = some (some (.ref f27)))
    (l27 : K.lookup f27 = some ⟨oc27, od27, .func (PySem.W.fnOf "text_of_pairs" "text_of_pairs" (defArgs (topS 27)) (defBody (topS 27)) (defScope (topS 27)) .none kV27 dc27 pm27 an27 cd27 ct27), sl27⟩)
    (c27 : PySem.W.codeIn K cd27 "text_of_pairs" = true) (k27 : PySem.W.keepIn K (.ref f27) = true)
    (a28 : PySem.W.nsIn K mainGlobals "text_of" = some (some (.ref f28)))
    (l28 : K.lookup f28 = some ⟨oc28, od28, .func (PySem.W.fnOf "text_of" "text_of" (defArgs (topS 28)) (defBody (topS 28)) (defScope (topS 28)) .none kV28 dc28 pm28 an28 cd28 ct28), sl28⟩)
    (c28 : PySem.W.codeIn K cd28 "text_of" = true) (k28 : PySem.W.keepIn K (.ref f28) = true)
    (a29 : PySem.W.nsIn K mainGlobals "int_in" = some (some (.ref f29)))
    (l29 : K.lookup f29 = some ⟨oc29, od29, .func (PySem.W.fnOf "int_in" "int_in" (defArgs (topS 29)) (defBody (topS 29)) (defScope (topS 29)) .none kV29 dc29 pm29 an29 cd29 ct29), sl29⟩)
    (c29 : PySem.W.codeIn K cd29 "int_in" = true) (k29 : PySem.W.keepIn K (.ref f29) = true)
    (a30 : PySem.W.nsIn K mainGlobals "pair_in" = some (some (.ref f30)))
    (l30 : K.lookup f30 = some ⟨oc30, od30, .func (PySem.W.fnOf "pair_in" "pair_in" (defArgs (topS 30)) (defBody (topS 30)) (defScope (topS 30)) .none kV30 dc30 pm30 an30 cd30 ct30), sl30⟩)
    (c30 : PySem.W.codeIn K cd30 "pair_in" = true) (k30 : PySem.W.keepIn K (.ref f30) = true)
    (a31 : PySem.W.nsIn K mainGlobals "pairs_in" = some (some (.ref f31)))
    (l31 : K.lookup f31 = some ⟨oc31, od31, .func (PySem.W.fnOf "pairs_in" "pairs_in" (defArgs (topS 31)) (defBody (topS 31)) (defScope (topS 31)) .none kV31 dc31 pm31 an31 cd31 ct31), sl31⟩)
    (c31 : PySem.W.codeIn K cd31 "pairs_in" = true) (k31 : PySem.W.keepIn K (.ref f31) = true)
    (a32 : PySem.W.nsIn K mainGlobals "object_in" = some (some (.ref f32)))
    (l32 : K.lookup f32 = some ⟨oc32, od32, .func (PySem.W.fnOf "object_in" "object_in" (defArgs (topS 32)) (defBody (topS 32)) (defScope (topS 32)) .none kV32 dc32 pm32 an32 cd32 ct32), sl32⟩)
    (c32 : PySem.W.codeIn K cd32 "object_in" = true) (k32 : PySem.W.keepIn K (.ref f32) = true)
    (a33 : PySem.W.nsIn K mainGlobals "write" = some (some (.ref f33)))
    (l33 : K.lookup f33 = some ⟨oc33, od33, .func (PySem.W.fnOf "write" "write" (defArgs (topS 33)) (defBody (topS 33)) (defScope (topS 33)) .none kV33 dc33 pm33 an33 cd33 ct33), sl33⟩)
    (c33 : PySem.W.codeIn K cd33 "write" = true) (k33 : PySem.W.keepIn K (.ref f33) = true)
    (a34 : PySem.W.nsIn K mainGlobals "read" = some (some (.ref f34)))
    (l34 : K.lookup f34 = some ⟨oc34, od34, .func (PySem.W.fnOf "read" "read" (defArgs (topS 34)) (defBody (topS 34)) (defScope (topS 34)) .none kV34 dc34 pm34 an34 cd34 ct34), sl34⟩)
    (c34 : PySem.W.codeIn K cd34 "read" = true) (k34 : PySem.W.keepIn K (.ref f34) = true)
    (a36 : PySem.W.nsIn K mainGlobals "_law_mixed" = some (some (.ref f36)))
    (l36 : K.lookup f36 = some ⟨oc36, od36, .func (PySem.W.fnOf "_law_mixed" "_law_mixed" (defArgs (topS 36)) (defBody (topS 36)) (defScope (topS 36)) .none kV36 dc36 pm36 an36 cd36 ct36), sl36⟩)
    (c36 : PySem.W.codeIn K cd36 "_law_mixed" = true) (k36 : PySem.W.keepIn K (.ref f36) = true)
    (a37 : PySem.W.nsIn K mainGlobals "_law_cell" = some (some (.ref f37)))
    (l37 : K.lookup f37 = some ⟨oc37, od37, .func (PySem.W.fnOf "_law_cell" "_law_cell" (defArgs (topS 37)) (defBody (topS 37)) (defScope (topS 37)) .none kV37 dc37 pm37 an37 cd37 ct37), sl37⟩)
    (c37 : PySem.W.codeIn K cd37 "_law_cell" = true) (k37 : PySem.W.keepIn K (.ref f37) = true)
    (a38 : PySem.W.nsIn K mainGlobals "_law_take" = some (some (.ref f38)))
    (l38 : K.lookup f38 = some ⟨oc38, od38, .func (PySem.W.fnOf "_law_take" "_law_take" (defArgs (topS 38)) (defBody (topS 38)) (defScope (topS 38)) .none kV38 dc38 pm38 an38 cd38 ct38), sl38⟩)
    (c38 : PySem.W.codeIn K cd38 "_law_take" = true) (k38 : PySem.W.keepIn K (.ref f38) = true)
    (a39 : PySem.W.nsIn K mainGlobals "_law_fields" = some (some (.ref f39)))
    (l39 : K.lookup f39 = some ⟨oc39, od39, .func (PySem.W.fnOf "_law_fields" "_law_fields" (defArgs (topS 39)) (defBody (topS 39)) (defScope (topS 39)) .none kV39 dc39 pm39 an39 cd39 ct39), sl39⟩)
    (c39 : PySem.W.codeIn K cd39 "_law_fields" = true) (k39 : PySem.W.keepIn K (.ref f39) = true)
    (a40 : PySem.W.nsIn K mainGlobals "_law_web" = some (some (.ref f40)))
    (l40 : K.lookup f40 = some ⟨oc40, od40, .func (PySem.W.fnOf "_law_web" "_law_web" (defArgs (topS 40)) (defBody (topS 40)) (defScope (topS 40)) .none kV40 dc40 pm40 an40 cd40 ct40), sl40⟩)
    (c40 : PySem.W.codeIn K cd40 "_law_web" = true) (k40 : PySem.W.keepIn K (.ref f40) = true)
    (a43 : PySem.W.nsIn K mainGlobals "_law_text" = some (some (.ref f43)))
    (l43 : K.lookup f43 = some ⟨oc43, od43, .func (PySem.W.fnOf "_law_text" "_law_text" (defArgs (topS 43)) (defBody (topS 43)) (defScope (topS 43)) .none kV43 dc43 pm43 an43 cd43 ct43), sl43⟩)
    (c43 : PySem.W.codeIn K cd43 "_law_text" = true) (k43 : PySem.W.keepIn K (.ref f43) = true)
    (a44 : PySem.W.nsIn K mainGlobals "_law_read" = some (some (.ref f44)))
    (l44 : K.lookup f44 = some ⟨oc44, od44, .func (PySem.W.fnOf "_law_read" "_law_read" (defArgs (topS 44)) (defBody (topS 44)) (defScope (topS 44)) .none kV44 dc44 pm44 an44 cd44 ct44), sl44⟩)
    (c44 : PySem.W.codeIn K cd44 "_law_read" = true) (k44 : PySem.W.keepIn K (.ref f44) = true)
    (a45 : PySem.W.nsIn K mainGlobals "_law_bent" = some (some (.ref f45)))
    (l45 : K.lookup f45 = some ⟨oc45, od45, .func (PySem.W.fnOf "_law_bent" "_law_bent" (defArgs (topS 45)) (defBody (topS 45)) (defScope (topS 45)) .none kV45 dc45 pm45 an45 cd45 ct45), sl45⟩)
    (c45 : PySem.W.codeIn K cd45 "_law_bent" = true) (k45 : PySem.W.keepIn K (.ref f45) = true)
    (a46 : PySem.W.nsIn K mainGlobals "_law_refused" = some (some (.ref f46)))
    (l46 : K.lookup f46 = some ⟨oc46, od46, .func (PySem.W.fnOf "_law_refused" "_law_refused" (defArgs (topS 46)) (defBody (topS 46)) (defScope (topS 46)) .none kV46 dc46 pm46 an46 cd46 ct46), sl46⟩)
    (c46 : PySem.W.codeIn K cd46 "_law_refused" = true) (k46 : PySem.W.keepIn K (.ref f46) = true)
    (a47 : PySem.W.nsIn K mainGlobals "_law_letters_good" = some (some (.ref f47)))
    (l47 : K.lookup f47 = some ⟨oc47, od47, .func (PySem.W.fnOf "_law_letters_good" "_law_letters_good" (defArgs (topS 47)) (defBody (topS 47)) (defScope (topS 47)) .none kV47 dc47 pm47 an47 cd47 ct47), sl47⟩)
    (c47 : PySem.W.codeIn K cd47 "_law_letters_good" = true) (k47 : PySem.W.keepIn K (.ref f47) = true)
    (a48 : PySem.W.nsIn K mainGlobals "_law_fixed_good" = some (some (.ref f48)))
    (l48 : K.lookup f48 = some ⟨oc48, od48, .func (PySem.W.fnOf "_law_fixed_good" "_law_fixed_good" (defArgs (topS 48)) (defBody (topS 48)) (defScope (topS 48)) .none kV48 dc48 pm48 an48 cd48 ct48), sl48⟩)
    (c48 : PySem.W.codeIn K cd48 "_law_fixed_good" = true) (k48 : PySem.W.keepIn K (.ref f48) = true)
    (a49 : PySem.W.nsIn K mainGlobals "law" = some (some (.ref f49)))
    (l49 : K.lookup f49 = some ⟨oc49, od49, .func (PySem.W.fnOf "law" "law" (defArgs (topS 49)) (defBody (topS 49)) (defScope (topS 49)) .none kV49 dc49 pm49 an49 cd49 ct49), sl49⟩)
    (c49 : PySem.W.codeIn K cd49 "law" = true) (k49 : PySem.W.keepIn K (.ref f49) = true)
    (z_all : PySem.W.nsIn K mainGlobals "all" = some none)
    (z_bool : PySem.W.nsIn K mainGlobals "bool" = some none)
    (z_int : PySem.W.nsIn K mainGlobals "int" = some none)
    (z_isinstance : PySem.W.nsIn K mainGlobals "isinstance" = some none)
    (z_len : PySem.W.nsIn K mainGlobals "len" = some none)
    (z_max : PySem.W.nsIn K mainGlobals "max" = some none)
    (z_min : PySem.W.nsIn K mainGlobals "min" = some none)
    (z_range : PySem.W.nsIn K mainGlobals "range" = some none)
    (z_set : PySem.W.nsIn K mainGlobals "set" = some none)
    (z_sorted : PySem.W.nsIn K mainGlobals "sorted" = some none)
    (z_str : PySem.W.nsIn K mainGlobals "str" = some none)
    (z_tuple : PySem.W.nsIn K mainGlobals "tuple" = some none)
    (n5 : PySem.W.nsIn K mainGlobals "KINDS" = some (some (.ref ka5))) (o5 : K.lookup ka5 = some ⟨.type "tuple", none, .seq #[.str "open" t5_0, .str "frozen" t5_1] kn5, ks5⟩)
    (n6 : PySem.W.nsIn K mainGlobals "LEAST_INT" = some (some (Value.int (-999999999) t6)))
    (n7 : PySem.W.nsIn K mainGlobals "MOST_INT" = some (some (Value.int 999999999 t7)))
    (n8 : PySem.W.nsIn K mainGlobals "MOST_LETTERS" = some (some (Value.int 8 t8)))
    (n9 : PySem.W.nsIn K mainGlobals "MOST_FIELDS" = some (some (Value.int 4 t9)))
    (n10 : PySem.W.nsIn K mainGlobals "MOST_NAMES" = some (some (Value.int 6 t10)))
    (n11 : PySem.W.nsIn K mainGlobals "MOST_OBJECTS" = some (some (Value.int 30 t11)))
    (n25 : PySem.W.nsIn K mainGlobals "MOST_SIGNS" = some (some (Value.int 3000 t25)))
    (ga_InvalidWeb : PySem.W.nsIn K mainGlobals "InvalidWeb" = some (some (.ref C_InvalidWeb)))
    (gx_InvalidWeb : PySem.W.excIn K C_InvalidWeb [.type "ValueError", .type "Exception", .type "BaseException", .type "object"] "ValueError.__new__" = true)
    (gk_InvalidWeb : PySem.W.keepIn K (.ref C_InvalidWeb) = true)
    (gb_InvalidWeb : PySem.W.subIn K (.ref C_InvalidWeb) (.type "BaseException") = some true)
    (gt_InvalidWeb : PySem.W.typeIn K (.ref C_InvalidWeb) = some (.type "type"))
    (ga_InvalidText : PySem.W.nsIn K mainGlobals "InvalidText" = some (some (.ref C_InvalidText)))
    (gx_InvalidText : PySem.W.excIn K C_InvalidText [.type "ValueError", .type "Exception", .type "BaseException", .type "object"] "ValueError.__new__" = true)
    (gk_InvalidText : PySem.W.keepIn K (.ref C_InvalidText) = true)
    (gb_InvalidText : PySem.W.subIn K (.ref C_InvalidText) (.type "BaseException") = some true)
    (gt_InvalidText : PySem.W.typeIn K (.ref C_InvalidText) = some (.type "type"))
    (x1_InvalidWeb : PySem.W.findIn K (.ref C_InvalidWeb) "__getattribute__" = some (some (.builtin "BaseException.__getattribute__")))
    (x2_InvalidWeb : PySem.W.findIn K (.ref C_InvalidWeb) "__getattr__" = some none)
    (x4_InvalidWeb : PySem.W.hasDictIn K C_InvalidWeb = true)
    (x5_InvalidWeb : PySem.W.findIn K (.ref C_InvalidWeb) "__class__" = some (some (.builtin "object.__class__")))
    (x6_InvalidWeb : PySem.W.specialIn K (.builtin "object.__class__") "__get__" = some (some (.builtin "getset_descriptor.__get__")))
    (x7_InvalidWeb : PySem.W.takesIn K (.builtin "object.__class__") = some true)
    (x8_InvalidWeb : PySem.W.mroIn K C_InvalidWeb (.type "object") = some true)
    (x1_InvalidText : PySem.W.findIn K (.ref C_InvalidText) "__getattribute__" = some (some (.builtin "BaseException.__getattribute__")))
    (x2_InvalidText : PySem.W.findIn K (.ref C_InvalidText) "__getattr__" = some none)
    (x4_InvalidText : PySem.W.hasDictIn K C_InvalidText = true)
    (x5_InvalidText : PySem.W.findIn K (.ref C_InvalidText) "__class__" = some (some (.builtin "object.__class__")))
    (x6_InvalidText : PySem.W.specialIn K (.builtin "object.__class__") "__get__" = some (some (.builtin "getset_descriptor.__get__")))
    (x7_InvalidText : PySem.W.takesIn K (.builtin "object.__class__") = some true)
    (x8_InvalidText : PySem.W.mroIn K C_InvalidText (.type "object") = some true)
    (wd_InvalidText : PySem.W.hasDictIn K C_InvalidText = true)
    (w_InvalidText_InvalidText : PySem.W.subIn K (.ref C_InvalidText) (.ref C_InvalidText) = some true)
    (wd_InvalidWeb : PySem.W.hasDictIn K C_InvalidWeb = true)
    (w_InvalidWeb_InvalidWeb : PySem.W.subIn K (.ref C_InvalidWeb) (.ref C_InvalidWeb) = some true) :
    ∃ fd : FuncData, (∀ (s : Shared) (v : Value), BindsTo s fd ⟨[v], []⟩ [("script", v)]) ∧ ∀ base : Heap, K.In base → base.Ns mainGlobals mg → FnG l.prog w K mg base CX0 10 fa fd ["script"] (@spM (tb0 w) (clsK K) K 1 f_law_25) := by
  have e := hfa.symm.trans (PySem.W.mg_of X G a49)
  cases e
  have F12 := fun_mk (st := topS 12) l12 c12 k12
  have F13 := fun_mk (st := topS 13) l13 c13 k13
  have F14 := fun_mk (st := topS 14) l14 c14 k14
  have F15 := fun_mk (st := topS 15) l15 c15 k15
  have F16 := fun_mk (st := topS 16) l16 c16 k16
  have F17 := fun_mk (st := topS 17) l17 c17 k17
  have F18 := fun_mk (st := topS 18) l18 c18 k18
  have F19 := fun_mk (st := topS 19) l19 c19 k19
  have F20 := fun_mk (st := topS 20) l20 c20 k20
  have F22 := fun_mk (st := topS 22) l22 c22 k22
  have F23 := fun_mk (st := topS 23) l23 c23 k23
  have F26 := fun_mk (st := topS 26) l26 c26 k26
  have F27 := fun_mk (st := topS 27) l27 c27 k27
  have F28 := fun_mk (st := topS 28) l28 c28 k28
  have F29 := fun_mk (st := topS 29) l29 c29 k29
  have F30 := fun_mk (st := topS 30) l30 c30 k30
  have F31 := fun_mk (st := topS 31) l31 c31 k31
  have F32 := fun_mk (st := topS 32) l32 c32 k32
  have F33 := fun_mk (st := topS 33) l33 c33 k33
  have F34 := fun_mk (st := topS 34) l34 c34 k34
  have F36 := fun_mk (st := topS 36) l36 c36 k36
  have F37 := fun_mk (st := topS 37) l37 c37 k37
  have F38 := fun_mk (st := topS 38) l38 c38 k38
  have F39 := fun_mk (st := topS 39) l39 c39 k39
  have F40 := fun_mk (st := topS 40) l40 c40 k40
  have F43 := fun_mk (st := topS 43) l43 c43 k43
  have F44 := fun_mk (st := topS 44) l44 c44 k44
  have F45 := fun_mk (st := topS 45) l45 c45 k45
  have F46 := fun_mk (st := topS 46) l46 c46 k46
  have F47 := fun_mk (st := topS 47) l47 c47 k47
  have F48 := fun_mk (st := topS 48) l48 c48 k48
  have F49 := fun_mk (st := topS 49) l49 c49 k49
  refine ⟨PySem.W.fnOf "law" "law" (defArgs (topS 49)) (defBody (topS 49)) (defScope (topS 49)) .none kV49 dc49 pm49 an49 cd49 ct49, fun s v => .of_eq rfl, fun base hK hG => ?_⟩
  letI : Tb := (tb0 w)
  have hz : Hz w := ⟨fun _ => rfl, rfl⟩
  have g_InvalidWeb : mg "InvalidWeb" = some (.ref C_InvalidWeb) := PySem.W.mg_of X G ga_InvalidWeb
  have g_InvalidText : mg "InvalidText" = some (.ref C_InvalidText) := PySem.W.mg_of X G ga_InvalidText
  have e_InvalidWeb : ErC K mg "InvalidWeb" C_InvalidWeb := erC X G ga_InvalidWeb gx_InvalidWeb gk_InvalidWeb gb_InvalidWeb gt_InvalidWeb
  have e_InvalidText : ErC K mg "InvalidText" C_InvalidText := erC X G ga_InvalidText gx_InvalidText gk_InvalidText gb_InvalidText gt_InvalidText
  have y_InvalidText : ∀ n ∈ (["InvalidText"] : List String), PySem.W.exmOne K (clsK K n) (.ref C_InvalidText) = some true := fun n hn => by
    have hn : n = "InvalidText" := by simpa using hn
    rcases hn with rfl
    · rw [e_InvalidText.ck]; exact PySem.W.exm_ref gb_InvalidText wd_InvalidText gt_InvalidText w_InvalidText_InvalidText
  have y_InvalidWeb : ∀ n ∈ (["InvalidWeb"] : List String), PySem.W.exmOne K (clsK K n) (.ref C_InvalidWeb) = some true := fun n hn => by
    have hn : n = "InvalidWeb" := by simpa using hn
    rcases hn with rfl
    · rw [e_InvalidWeb.ck]; exact PySem.W.exm_ref gb_InvalidWeb wd_InvalidWeb gt_InvalidWeb w_InvalidWeb_InvalidWeb
  have b_all := PySem.W.mg_none_of X G z_all
  have b_bool := PySem.W.mg_none_of X G z_bool
  have b_int := PySem.W.mg_none_of X G z_int
  have b_isinstance := PySem.W.mg_none_of X G z_isinstance
  have b_len := PySem.W.mg_none_of X G z_len
  have b_max := PySem.W.mg_none_of X G z_max
  have b_min := PySem.W.mg_none_of X G z_min
  have b_range := PySem.W.mg_none_of X G z_range
  have b_set := PySem.W.mg_none_of X G z_set
  have b_sorted := PySem.W.mg_none_of X G z_sorted
  have b_str := PySem.W.mg_none_of X G z_str
  have b_tuple := PySem.W.mg_none_of X G z_tuple
  have c_KINDS : Co l.prog w K mg base "KINDS" v_KINDS := ⟨_, .ref ka5, PySem.W.mg_of X G n5, rfl, fun g H => .tup (vs := [.str "open", .str "frozen"]) (.inr ⟨_, _, _, rfl, o5, rfl, rfl, show 2 ≤ sizeLine by decide, (.cons ⟨_, rfl⟩ (.cons ⟨_, rfl⟩ .nil))⟩) (.cons (.str _) (.cons (.str _) .nil))⟩
  have c_LEAST_INT : Co l.prog w K mg base "LEAST_INT" v_LEAST_INT := ⟨_, (V.int (-999999999)), PySem.W.mg_of X G n6, ⟨_, rfl⟩, fun g H => .int _⟩
  have c_MOST_INT : Co l.prog w K mg base "MOST_INT" v_MOST_INT := ⟨_, (V.int 999999999), PySem.W.mg_of X G n7, ⟨_, rfl⟩, fun g H => .int _⟩
  have c_MOST_LETTERS : Co l.prog w K mg base "MOST_LETTERS" v_MOST_LETTERS := ⟨_, (V.int 8), PySem.W.mg_of X G n8, ⟨_, rfl⟩, fun g H => .int _⟩
  have c_MOST_FIELDS : Co l.prog w K mg base "MOST_FIELDS" v_MOST_FIELDS := ⟨_, (V.int 4), PySem.W.mg_of X G n9, ⟨_, rfl⟩, fun g H => .int _⟩
  have c_MOST_NAMES : Co l.prog w K mg base "MOST_NAMES" v_MOST_NAMES := ⟨_, (V.int 6), PySem.W.mg_of X G n10, ⟨_, rfl⟩, fun g H => .int _⟩
  have c_MOST_OBJECTS : Co l.prog w K mg base "MOST_OBJECTS" v_MOST_OBJECTS := ⟨_, (V.int 30), PySem.W.mg_of X G n11, ⟨_, rfl⟩, fun g H => .int _⟩
  have c_MOST_SIGNS : Co l.prog w K mg base "MOST_SIGNS" v_MOST_SIGNS := ⟨_, (V.int 3000), PySem.W.mg_of X G n25, ⟨_, rfl⟩, fun g H => .int _⟩
  have g_is_int : FnG l.prog w K mg base CX0 1 f12 _ ["value"] (spM (clsK K) K 1 f_is_int) := ok_is_int F12 hz c_LEAST_INT c_MOST_INT b_isinstance b_bool b_int
  have d_is_int : Df l.prog w K mg base (clsK K) "is_int" 1 ["value"] f_is_int := ⟨_, _, g_is_int, PySem.W.mg_of X G a12, k12, F12.binds fun _ _ _ _ _ _ us hl => match us, hl with | [_], _ => rfl⟩
  have g_is_word : FnG l.prog w K mg base CX0 1 f13 _ ["value"] (spM (clsK K) K 1 f_is_word) := ok_is_word F13 hz c_MOST_LETTERS b_all b_len b_isinstance b_str
  have d_is_word : Df l.prog w K mg base (clsK K) "is_word" 1 ["value"] f_is_word := ⟨_, _, g_is_word, PySem.W.mg_of X G a13, k13, F13.binds fun _ _ _ _ _ _ us hl => match us, hl with | [_], _ => rfl⟩
  have g_words_of : FnG l.prog w K mg base CX0 1 f14 _ ["pairs"] (spM (clsK K) K 1 f_words_of) := ok_words_of F14 hz 
  have d_words_of : Df l.prog w K mg base (clsK K) "words_of" 1 ["pairs"] f_words_of := ⟨_, _, g_words_of, PySem.W.mg_of X G a14, k14, F14.binds fun _ _ _ _ _ _ us hl => match us, hl with | [_], _ => rfl⟩
  have g_is_tuple : FnG l.prog w K mg base CX0 1 f15 _ ["value", "least", "most"] (spM (clsK K) K 3 f_is_tuple) := ok_is_tuple F15 hz b_len b_isinstance b_tuple
  have d_is_tuple : Df l.prog w K mg base (clsK K) "is_tuple" 1 ["value", "least", "most"] f_is_tuple := ⟨_, _, g_is_tuple, PySem.W.mg_of X G a15, k15, F15.binds fun _ _ _ _ _ _ us hl => match us, hl with | [_, _, _], _ => rfl⟩
  have g_text_of_pair : FnG l.prog w K mg base CX0 1 f26 _ ["word", "value"] (spM (clsK K) K 2 f_text_of_pair) := ok_text_of_pair F26 hz b_str b_isinstance b_tuple
  have d_text_of_pair : Df l.prog w K mg base (clsK K) "text_of_pair" 1 ["word", "value"] f_text_of_pair := ⟨_, _, g_text_of_pair, PySem.W.mg_of X G a26, k26, F26.binds fun _ _ _ _ _ _ us hl => match us, hl with | [_, _], _ => rfl⟩
  have g_int_in : FnG l.prog w K mg base CX0 1 f29 _ ["text"] (spM (clsK K) K 1 f_int_in) := ok_int_in F29 hz c_MOST_INT b_int b_all b_len b_str
  have d_int_in : Df l.prog w K mg base (clsK K) "int_in" 1 ["text"] f_int_in := ⟨_, _, g_int_in, PySem.W.mg_of X G a29, k29, F29.binds fun _ _ _ _ _ _ us hl => match us, hl with | [_], _ => rfl⟩
  have g__law_mixed : FnG l.prog w K mg base CX0 1 f36 _ ["cell", "k"] (spM (clsK K) K 2 f__law_mixed) := ok__law_mixed F36 hz b_int
  have d__law_mixed : Df l.prog w K mg base (clsK K) "_law_mixed" 1 ["cell", "k"] f__law_mixed := ⟨_, _, g__law_mixed, PySem.W.mg_of X G a36, k36, F36.binds fun _ _ _ _ _ _ us hl => match us, hl with | [_, _], _ => rfl⟩
  have g__law_take : FnG l.prog w K mg base CX0 1 f38 _ ["digits", "size"] (spM (clsK K) K 2 f__law_take) := ok__law_take F38 hz b_int
  have d__law_take : Df l.prog w K mg base (clsK K) "_law_take" 1 ["digits", "size"] f__law_take := ⟨_, _, g__law_take, PySem.W.mg_of X G a38, k38, F38.binds fun _ _ _ _ _ _ us hl => match us, hl with | [_, _], _ => rfl⟩
  have g__law_text : FnG l.prog w K mg base CX0 1 f43 _ ["web"] (spM (clsK K) K 1 f__law_text) := ok__law_text F43 hz b_isinstance b_tuple b_str
  have d__law_text : Df l.prog w K mg base (clsK K) "_law_text" 1 ["web"] f__law_text := ⟨_, _, g__law_text, PySem.W.mg_of X G a43, k43, F43.binds fun _ _ _ _ _ _ us hl => match us, hl with | [_], _ => rfl⟩
  have g_is_number : FnG l.prog w K mg base CX0 2 f16 _ ["value", "many"] (spM (clsK K) K 2 f_is_number) := ok_is_number F16 hz d_is_int
  have d_is_number : Df l.prog w K mg base (clsK K) "is_number" 2 ["value", "many"] f_is_number := ⟨_, _, g_is_number, PySem.W.mg_of X G a16, k16, F16.binds fun _ _ _ _ _ _ us hl => match us, hl with | [_, _], _ => rfl⟩
  have g_is_table : FnG l.prog w K mg base CX0 2 f18 _ ["value", "least", "most"] (spM (clsK K) K 3 f_is_table) := ok_is_table F18 hz b_sorted b_set b_all d_words_of d_is_word d_is_tuple
  have d_is_table : Df l.prog w K mg base (clsK K) "is_table" 2 ["value", "least", "most"] f_is_table := ⟨_, _, g_is_table, PySem.W.mg_of X G a18, k18, F18.binds fun _ _ _ _ _ _ us hl => match us, hl with | [_, _, _], _ => rfl⟩
  have g_text_of_pairs : FnG l.prog w K mg base CX0 2 f27 _ ["pairs"] (spM (clsK K) K 1 f_text_of_pairs) := ok_text_of_pairs F27 hz d_text_of_pair
  have d_text_of_pairs : Df l.prog w K mg base (clsK K) "text_of_pairs" 2 ["pairs"] f_text_of_pairs := ⟨_, _, g_text_of_pairs, PySem.W.mg_of X G a27, k27, F27.binds fun _ _ _ _ _ _ us hl => match us, hl with | [_], _ => rfl⟩
  have g_pair_in : FnG l.prog w K mg base CX0 2 f30 _ ["text"] (spM (clsK K) K 1 f_pair_in) := ok_pair_in F30 hz d_int_in
  have d_pair_in : Df l.prog w K mg base (clsK K) "pair_in" 2 ["text"] f_pair_in := ⟨_, _, g_pair_in, PySem.W.mg_of X G a30, k30, F30.binds fun _ _ _ _ _ _ us hl => match us, hl with | [_], _ => rfl⟩
  have g__law_cell : FnG l.prog w K mg base CX0 2 f37 _ ["script", "k"] (spM (clsK K) K 2 f__law_cell) := ok__law_cell F37 hz b_range b_int b_len d__law_mixed
  have d__law_cell : Df l.prog w K mg base (clsK K) "_law_cell" 2 ["script", "k"] f__law_cell := ⟨_, _, g__law_cell, PySem.W.mg_of X G a37, k37, F37.binds fun _ _ _ _ _ _ us hl => match us, hl with | [_, _], _ => rfl⟩
  have g__law_fields : FnG l.prog w K mg base CX0 2 f39 _ ["digits", "many"] (spM (clsK K) K 2 f__law_fields_2) := ok__law_fields F39 hz b_tuple d__law_take
  have d__law_fields : Df l.prog w K mg base (clsK K) "_law_fields" 2 ["digits", "many"] f__law_fields_2 := ⟨_, _, g__law_fields, PySem.W.mg_of X G a39, k39, F39.binds fun _ _ _ _ _ _ us hl => match us, hl with | [_, _], _ => rfl⟩
  have g__law_bent : FnG l.prog w K mg base CX0 2 f45 _ ["digits", "text"] (spM (clsK K) K 2 f__law_bent_4) := ok__law_bent F45 hz b_len d__law_take
  have d__law_bent : Df l.prog w K mg base (clsK K) "_law_bent" 2 ["digits", "text"] f__law_bent_4 := ⟨_, _, g__law_bent, PySem.W.mg_of X G a45, k45, F45.binds fun _ _ _ _ _ _ us hl => match us, hl with | [_, _], _ => rfl⟩
  have g_is_field_value : FnG l.prog w K mg base CX0 3 f17 _ ["value", "many"] (spM (clsK K) K 2 f_is_field_value) := ok_is_field_value F17 hz d_is_number d_is_tuple d_is_int
  have d_is_field_value : Df l.prog w K mg base (clsK K) "is_field_value" 3 ["value", "many"] f_is_field_value := ⟨_, _, g_is_field_value, PySem.W.mg_of X G a17, k17, F17.binds fun _ _ _ _ _ _ us hl => match us, hl with | [_, _], _ => rfl⟩
  have g_is_names : FnG l.prog w K mg base CX0 3 f20 _ ["value", "many"] (spM (clsK K) K 2 f_is_names) := ok_is_names F20 hz c_MOST_NAMES b_all d_is_number d_is_table
  have d_is_names : Df l.prog w K mg base (clsK K) "is_names" 3 ["value", "many"] f_is_names := ⟨_, _, g_is_names, PySem.W.mg_of X G a20, k20, F20.binds fun _ _ _ _ _ _ us hl => match us, hl with | [_, _], _ => rfl⟩
  have g_text_of : FnG l.prog w K mg base CX0 3 f28 _ ["web"] (spM (clsK K) K 1 f_text_of) := ok_text_of F28 hz d_text_of_pairs
  have d_text_of : Df l.prog w K mg base (clsK K) "text_of" 3 ["web"] f_text_of := ⟨_, _, g_text_of, PySem.W.mg_of X G a28, k28, F28.binds fun _ _ _ _ _ _ us hl => match us, hl with | [_], _ => rfl⟩
  have g_pairs_in : FnG l.prog w K mg base CX0 3 f31 _ ["texts"] (spM (clsK K) K 1 f_pairs_in) := ok_pairs_in F31 hz b_tuple d_pair_in
  have d_pairs_in : Df l.prog w K mg base (clsK K) "pairs_in" 3 ["texts"] f_pairs_in := ⟨_, _, g_pairs_in, PySem.W.mg_of X G a31, k31, F31.binds fun _ _ _ _ _ _ us hl => match us, hl with | [_], _ => rfl⟩
  have g__law_web : FnG l.prog w K mg base CX0 3 f40 _ ["digits", "most"] (spM (clsK K) K 2 f__law_web_2) := ok__law_web F40 hz b_tuple b_range b_min d__law_take d__law_fields
  have d__law_web : Df l.prog w K mg base (clsK K) "_law_web" 3 ["digits", "most"] f__law_web_2 := ⟨_, _, g__law_web, PySem.W.mg_of X G a40, k40, F40.binds fun _ _ _ _ _ _ us hl => match us, hl with | [_, _], _ => rfl⟩
  have g_is_object : FnG l.prog w K mg base CX0 4 f19 _ ["value", "many"] (spM (clsK K) K 2 f_is_object) := ok_is_object F19 hz c_MOST_FIELDS c_KINDS b_all d_is_field_value d_is_table d_is_tuple
  have d_is_object : Df l.prog w K mg base (clsK K) "is_object" 4 ["value", "many"] f_is_object := ⟨_, _, g_is_object, PySem.W.mg_of X G a19, k19, F19.binds fun _ _ _ _ _ _ us hl => match us, hl with | [_, _], _ => rfl⟩
  have g_object_in : FnG l.prog w K mg base CX0 4 f32 _ ["line"] (spM (clsK K) K 1 f_object_in) := ok_object_in F32 hz d_pairs_in
  have d_object_in : Df l.prog w K mg base (clsK K) "object_in" 4 ["line"] f_object_in := ⟨_, _, g_object_in, PySem.W.mg_of X G a32, k32, F32.binds fun _ _ _ _ _ _ us hl => match us, hl with | [_], _ => rfl⟩
  have g_is_web : FnG l.prog w K mg base CX0 5 f22 _ ["value"] (spM (clsK K) K 1 f_is_web) := ok_is_web F22 hz c_MOST_OBJECTS b_all b_len d_is_object d_is_names d_is_tuple
  have d_is_web : Df l.prog w K mg base (clsK K) "is_web" 5 ["value"] f_is_web := ⟨_, _, g_is_web, PySem.W.mg_of X G a22, k22, F22.binds fun _ _ _ _ _ _ us hl => match us, hl with | [_], _ => rfl⟩
  have g_check_web : FnG l.prog w K mg base (L2.CX l.prog w) 6 f23 _ ["web"] (spM (clsK K) K 1 f_check_web_2) := ok_check_web F23 hz e_InvalidWeb d_is_web
  have x_check_web : DfX l.prog w K mg base (clsK K) "check_web" 6 ["web"] f_check_web_2 := ⟨_, _, g_check_web, PySem.W.mg_of X G a23, k23, F23.binds fun _ _ _ _ _ _ us hl => match us, hl with | [_], _ => rfl⟩
  have g_check_web__N : FnG l.prog w K mg base CX0 6 f23 _ ["web"] (spM (clsK K) K 1 f_check_web__N) := ok_check_web__N F23 hz d_is_web
  have d_check_web__N : Df l.prog w K mg base (clsK K) "check_web" 6 ["web"] f_check_web__N := ⟨_, _, g_check_web__N, PySem.W.mg_of X G a23, k23, F23.binds fun _ _ _ _ _ _ us hl => match us, hl with | [_], _ => rfl⟩
  have g_read : FnG l.prog w K mg base (L2.CX l.prog w) 6 f34 _ ["text"] (spM (clsK K) K 1 f_read) := ok_read F34 hz c_MOST_SIGNS b_len b_isinstance b_str b_tuple e_InvalidText d_pairs_in d_object_in d_text_of d_is_web
  have x_read : DfX l.prog w K mg base (clsK K) "read" 6 ["text"] f_read := ⟨_, _, g_read, PySem.W.mg_of X G a34, k34, F34.binds fun _ _ _ _ _ _ us hl => match us, hl with | [_], _ => rfl⟩
  have g_read__N : FnG l.prog w K mg base CX0 6 f34 _ ["text"] (spM (clsK K) K 1 f_read__N) := ok_read__N F34 hz c_MOST_SIGNS b_tuple b_len b_isinstance b_str d_text_of d_is_web d_pairs_in d_object_in
  have d_read__N : Df l.prog w K mg base (clsK K) "read" 6 ["text"] f_read__N := ⟨_, _, g_read__N, PySem.W.mg_of X G a34, k34, F34.binds fun _ _ _ _ _ _ us hl => match us, hl with | [_], _ => rfl⟩
  have g_write : FnG l.prog w K mg base (L2.CX l.prog w) 7 f33 _ ["web"] (spM (clsK K) K 1 f_write) := ok_write F33 hz x_check_web d_text_of
  have x_write : DfX l.prog w K mg base (clsK K) "write" 7 ["web"] f_write := ⟨_, _, g_write, PySem.W.mg_of X G a33, k33, F33.binds fun _ _ _ _ _ _ us hl => match us, hl with | [_], _ => rfl⟩
  have g_write__N : FnG l.prog w K mg base CX0 7 f33 _ ["web"] (spM (clsK K) K 1 f_write__N) := ok_write__N F33 hz d_text_of d_check_web__N
  have d_write__N : Df l.prog w K mg base (clsK K) "write" 7 ["web"] f_write__N := ⟨_, _, g_write__N, PySem.W.mg_of X G a33, k33, F33.binds fun _ _ _ _ _ _ us hl => match us, hl with | [_], _ => rfl⟩
  have g__law_read : FnG l.prog w K mg base CX0 7 f44 _ ["text"] (spM (clsK K) K 1 f__law_read) := ok__law_read F44 hz e_InvalidText y_InvalidText x_read
  have d__law_read : Df l.prog w K mg base (clsK K) "_law_read" 7 ["text"] f__law_read := ⟨_, _, g__law_read, PySem.W.mg_of X G a44, k44, F44.binds fun _ _ _ _ _ _ us hl => match us, hl with | [_], _ => rfl⟩
  have g__law_refused : FnG l.prog w K mg base CX0 8 f46 _ ["thing"] (spM (clsK K) K 1 f__law_refused) := ok__law_refused F46 hz e_InvalidWeb y_InvalidWeb x_write
  have d__law_refused : Df l.prog w K mg base (clsK K) "_law_refused" 8 ["thing"] f__law_refused := ⟨_, _, g__law_refused, PySem.W.mg_of X G a46, k46, F46.binds fun _ _ _ _ _ _ us hl => match us, hl with | [_], _ => rfl⟩
  have g__law_letters_good : FnG l.prog w K mg base CX0 8 f47 _ [] (spM (clsK K) K 0 f__law_letters_good) := ok__law_letters_good F47 hz b_tuple b_range d__law_read d_read__N d__law_text d_write__N
  have d__law_letters_good : Df l.prog w K mg base (clsK K) "_law_letters_good" 8 [] f__law_letters_good := ⟨_, _, g__law_letters_good, PySem.W.mg_of X G a47, k47, F47.binds fun _ _ _ _ _ _ us hl => match us, hl with | [], _ => rfl⟩
  have g__law_fixed_good : FnG l.prog w K mg base CX0 9 f48 _ [] (spM (clsK K) K 0 f__law_fixed_good) := ok__law_fixed_good F48 hz b_all b_tuple b_range d_write__N d_read__N d__law_read d__law_letters_good d__law_text d__law_refused
  have d__law_fixed_good : Df l.prog w K mg base (clsK K) "_law_fixed_good" 9 [] f__law_fixed_good := ⟨_, _, g__law_fixed_good, PySem.W.mg_of X G a48, k48, F48.binds fun _ _ _ _ _ _ us hl => match us, hl with | [], _ => rfl⟩
  exact ok_law F49 hz b_range b_max b_min b_len d__law_fixed_good d__law_text d_write__N d_is_web d__law_read d__law_bent d_read__N d__law_web d__law_cell
end K60
set_option Elab.async false
set_option linter.all false
set_option maxRecDepth 100000
set_option maxHeartbeats 400000
namespace K01
open PySem PySem.Spec PyProof.Rows L2 Sim Pg
def isIntP : PV → Bool
  | .int i => decide (-999999999 ≤ i) && decide (i ≤ 999999999)
  | _ => false
theorem f_is_int_ok {x : PV} (h : flat x = true) (st : Sto) : f_is_int [x] st = .ok (.bl (isIntP x)) st := by
  unfold f_is_int m_is_int
  cases x <;> first | (cases h; done) | simp_arith! [isi_int h, isi_bool h, v_LEAST_INT, v_MOST_INT, isIntP]
def isTupP (lo hi : Int) : PV → Bool
  | .tup xs => decide (lo ≤ xs.length) && decide ((xs.length : Int) ≤ hi)
  | _ => false
theorem f_is_tuple_ok {x : PV} (h : flat x = true) (lo hi : Int) (st : Sto) : f_is_tuple [x, .int lo, .int hi] st = .ok (.bl (isTupP lo hi x)) st := by
  unfold f_is_tuple m_is_tuple
  cases x <;> first | (cases h; done) | simp_arith! [isi_tuple h, isTupP, len_ok_t]
def numP (many : Int) : PV → Bool
  | .int i => (decide (-999999999 ≤ i) && decide (i ≤ 999999999)) && (decide (0 ≤ i) && decide (i < many))
  | _ => false
theorem f_is_number_ok {x : PV} (h : flat x = true) (n : Int) (st : Sto) : f_is_number [x, .int n] st = .ok (.bl (numP n x)) st := by
  unfold f_is_number m_is_number
  cases x <;> first | (cases h; done) | simp_arith! [f_is_int_ok h, isIntP, numP]
def valP (n : Int) (x : PV) : Bool := isIntP x || match x with
  | .tup [y] => numP n y
  | _ => false
theorem f_is_field_value_ok {x : PV} (h : dt x = true) (n : Int) (st : Sto) : f_is_field_value [x, .int n] st = .ok (.bl (valP n x)) st := by
  have hf := dt_flat h
  unfold f_is_field_value m_is_field_value
  cases x with
  | tup xs =>
    obtain ⟨_, hx⟩ := dt_tup h
    match xs, hx with
    | [], _ =>
      have e : isTupP 1 1 (.tup []) = false := rfl
      simp_arith! [f_is_int_ok hf, f_is_tuple_ok hf, isIntP, e, valP]
    | [y], hx =>
      have hy := dt_flat (hx y (List.mem_cons_self ..))
      have e : isTupP 1 1 (.tup [y]) = true := rfl
      simp_arith! [f_is_int_ok hf, f_is_tuple_ok hf, isIntP, e, valP, ix0, f_is_number_ok hy]
    | y :: z :: r, _ =>
      have e : isTupP 1 1 (.tup (y :: z :: r)) = false := by simp only [isTupP, List.length_cons]; rw [Bool.and_eq_false_iff]; right; rw [decide_eq_false_iff_not]; omega
      simp_arith! [f_is_int_ok hf, f_is_tuple_ok hf, isIntP, e, valP]
  | _ => first | (cases hf; done) | simp_arith! [f_is_int_ok hf, f_is_tuple_ok hf, isIntP, isTupP, valP]
/-- a letter's number -/
def low26 (c : Nat) : Bool := decide (97 ≤ c) && decide (c ≤ 122)
def wordP : PV → Bool
  | .str z => (decide (1 ≤ (z.length : Int)) && decide ((z.length : Int) ≤ 8)) && z.cps.toList.all low26
  | _ => false
theorem strA : ("a" : Str).cps.toList = [97] := by decide +kernel
theorem strZ : ("z" : Str).cps.toList = [122] := by decide +kernel
theorem f_is_word_ok {x : PV} (h : dt x = true) (st : Sto) : f_is_word [x] st = .ok (.bl (wordP x)) st := by
  have hf := dt_flat h
  unfold f_is_word m_is_word
  cases x with
  | str z =>
    have hl := dt_str h
    rcases Bool.eq_false_or_eq_true (decide (1 ≤ (z.length : Int)) && decide ((z.length : Int) ≤ 8)) with hb | hb
    · have e := lc_all (it := mIter (mVar 0)) (i := 1) (m := mChain sLe sLe (mC (.str "a")) (mVar 1) (mC (.str "z"))) (vs := [1]) (env := [some (.str z), none]) (st := st) (g := fun x => low26 (sgn x)) rfl (fit_signs hl) fun x hx => by
        obtain ⟨c, rfl⟩ := mem_signs hx
        simp only [wipeL]
        simp_arith! [strA, strZ, lex1]
        show _ = Res.ok (PV.bl (low26 c)) st
        unfold low26
        congr 2
        rw [Bool.eq_iff_iff]
        simp only [Bool.and_eq_true, Bool.not_eq_true', decide_eq_false_iff_not, decide_eq_true_eq]
        omega
      simp_arith! [isi_str hf, lenS hl, v_MOST_LETTERS, hb, wordP, e, sall_map, all_signs]
    · simp_arith! [isi_str hf, lenS hl, v_MOST_LETTERS, hb, wordP]
  | _ => first | (cases hf; done) | simp_arith! [isi_str hf, wordP]
/-- pairs of a word and something -/
def pairP : PV → Bool
  | .tup [w, _] => wordP w
  | _ => false
def fst : PV → PV
  | .tup (x :: _) => x
  | _ => .non
def snd : PV → PV
  | .tup (_ :: y :: _) => y
  | _ => .non
def txtP : PV → Str
  | .str z => z
  | _ => Str.empty
def wordsP (xs : List PV) : List Str := xs.map fun x => txtP (fst x)
def ascP (ws : List Str) : Bool := decide (ws = sortU ws)
def tableP (lo hi : Int) : PV → Bool
  | .tup xs => (decide (lo ≤ xs.length) && decide ((xs.length : Int) ≤ hi)) && (xs.all pairP && ascP (wordsP xs))
  | _ => false
theorem pair_body {x : PV} (h : dt x = true) (env : Lo) (i : Nat) (he : env[i]? = some (some x)) (st : Sto) : mAnd (mApp (fnN 3 f_is_tuple) (mCons (mVar i) (mCons (mC (.int 2)) (mCons (mC (.int 2)) mNil)))) (mApp (fnN 1 f_is_word) (mCons (mBin sIx (mVar i) (mC (.int 0))) mNil)) env st = .ok (.bl (pairP x)) st := by
  have hf := dt_flat h
  cases x with
  | tup xs =>
    obtain ⟨_, hx⟩ := dt_tup h
    match xs, hx with
    | [], _ =>
      have e : isTupP 2 2 (.tup []) = false := rfl
      simp_arith! [he, f_is_tuple_ok hf, e, pairP]
    | [y], hx =>
      have e : isTupP 2 2 (.tup [y]) = false := rfl
      simp_arith! [he, f_is_tuple_ok hf, e, pairP]
    | [y, z], hx =>
      have e : isTupP 2 2 (.tup [y, z]) = true := rfl
      simp_arith! [he, f_is_tuple_ok hf, e, pairP, ix0, f_is_word_ok (hx y (List.mem_cons_self ..))]
    | y :: z :: w :: r, _ =>
      have e : isTupP 2 2 (.tup (y :: z :: w :: r)) = false := by simp only [isTupP, List.length_cons]; rw [Bool.and_eq_false_iff]; right; rw [decide_eq_false_iff_not]; omega
      simp_arith! [he, f_is_tuple_ok hf, e, pairP]
  | _ => first | (cases hf; done) | simp_arith! [he, f_is_tuple_ok hf, isTupP, pairP]
theorem word_ok {z : Str} (h : wordP (.str z) = true) : PyData.strOk z = true := by
  simp only [wordP, Bool.and_eq_true, List.all_eq_true, low26, decide_eq_true_eq] at h
  unfold PyData.strOk
  rw [Array.all_eq_true_iff_forall_mem]
  intro c hc
  have := h.2 c (Array.mem_toList_iff.mpr hc)
  exact decide_eq_true (by omega)
theorem pairP_fst {x : PV} (h : pairP x = true) : ∃ z y, x = .tup [.str z, y] ∧ wordP (.str z) = true := by
  unfold pairP at h
  split at h
  · rename_i w y
    cases w with
    | str z => exact ⟨z, y, rfl, h⟩
    | _ => exact nomatch h
  · exact nomatch h
theorem fst_map {xs : List PV} (h : ∀ x ∈ xs, pairP x = true) : xs.map fst = (wordsP xs).map .str := by
  unfold wordsP
  rw [List.map_map]
  refine List.map_congr_left fun x hx => ?_
  obtain ⟨z, y, rfl, _⟩ := pairP_fst (h x hx)
  rfl
theorem words_ok {xs : List PV} (h : ∀ x ∈ xs, pairP x = true) : ∀ w ∈ wordsP xs, PyData.strOk w = true := fun w hw => by
  obtain ⟨x, hx, rfl⟩ := List.mem_map.mp hw
  obtain ⟨z, y, rfl, hz⟩ := pairP_fst (h x hx)
  exact word_ok hz
theorem gc_same {st : Sto} {x : PV} (h : low st.length x = true) : gc st x st = .ok x st := by
  have := gc_keep (st := st) (t := []) h
  rwa [List.append_nil] at this
theorem f_words_of_ok {xs : List PV} (hfit : fitL xs = true) (h : ∀ x ∈ xs, pairP x = true) (st : Sto) : f_words_of [.tup xs] st = .ok (.lst ((wordsP xs).map .str)) st := by
  unfold f_words_of m_words_of
  have e2 := lc_map (it := mIter (mVar 0)) (i := 1) (m := mBin sIx (mVar 1) (mC (.int 0))) (vs := [1])
    (env := [some (.tup xs), none]) (st := st) (g := fst) rfl hfit fun x hm => by
      obtain ⟨z, y, rfl, _⟩ := pairP_fst (h x hm)
      simp only [wipeL]
      simp_arith! [ix0, fst]
  rw [fst_map h] at e2
  have lo : ∀ l : List Str, lows st.length (l.map .str) = true := fun l => by
    induction l with
    | nil => rfl
    | cons a l ih => simp only [List.map_cons, lows, low, ih, Bool.and_self]
  simp_arith! [e2, gc_same (st := st) (x := .lst ((wordsP xs).map .str)) (by simp only [low]; exact lo _)]
theorem f_is_table_ok {x : PV} (h : dt x = true) (lo hi : Int) (hh : hi < 40) (st : Sto) : f_is_table [x, .int lo, .int hi] st = .ok (.bl (tableP lo hi x)) st := by
  have hf := dt_flat h
  unfold f_is_table m_is_table
  cases x with
  | tup xs =>
    obtain ⟨hfit, hx⟩ := dt_tup h
    rcases Bool.eq_false_or_eq_true (isTupP lo hi (.tup xs)) with hb | hb
    · have hb2 := hb
      simp only [isTupP] at hb2
      have e := lc_all (it := mIter (mVar 0)) (i := 4) (m := mAnd (mApp (fnN 3 f_is_tuple) (mCons (mVar 4) (mCons (mC (.int 2)) (mCons (mC (.int 2)) mNil)))) (mApp (fnN 1 f_is_word) (mCons (mBin sIx (mVar 4) (mC (.int 0))) mNil))) (vs := [4])
        (env := [some (.tup xs), some (.int lo), some (.int hi), none, none]) (st := st) (g := pairP) rfl hfit fun x hm => pair_body (hx x hm) _ 4 rfl st
      rcases Bool.eq_false_or_eq_true (xs.all pairP) with hp | hp
      · have hp2 : ∀ x ∈ xs, pairP x = true := List.all_eq_true.mp hp
        have e2 := f_words_of_ok hfit hp2 st
        have hl : (wordsP xs).length < 40 := by
          simp only [Bool.and_eq_true, decide_eq_true_eq] at hb2
          unfold wordsP
          rw [List.length_map]
          omega
        have e3 := eq_strs (words_ok hp2) (b := sortU (wordsP xs)) (fun w hw => words_ok hp2 w ((sortU_mem _ _).mp hw)) st
        simp_arith! [f_is_tuple_ok hf, hb, e, sall_map, hp, e2, sortset_ok hl, e3, tableP, hb2, ascP]
      · simp_arith! [f_is_tuple_ok hf, hb, e, sall_map, hp, tableP, hb2]
    · have hb2 := hb
      simp only [isTupP] at hb2
      simp_arith! [f_is_tuple_ok hf, hb, tableP, hb2]
  | _ => first | (cases hf; done) | simp_arith! [f_is_tuple_ok hf, isTupP, tableP]
def kindP : PV → Bool
  | .str z => decide (z = "open") || decide (z = "frozen")
  | _ => false
/-- may be asked whether it is in a tuple -/
def plainP (x : PV) : Bool := match toD x with
  | some d => SeqAt.shaped d
  | none => false
theorem plain_of {x : PV} (h : plainP x = true) : ∃ d, toD x = some d ∧ SeqAt.shaped d = true := by
  unfold plainP at h
  split at h
  · exact ⟨_, by assumption, h⟩
  · cases h
theorem shaped_kinds : SeqAt.shaped (.tuple [.str "open", .str "frozen"]) = true := by decide +kernel
theorem toDS_flat {x : PV} (h : flat x = true) (st : Sto) : toDS st x = toD x := by cases x <;> first | (cases h; done) | rfl
theorem any_kinds {k : PV} {d : PyData} (h : toD k = some d) : ([.str "open", .str "frozen"] : List PyData).any (fun z => PyData.eqv z d) = kindP k := by
  cases k with
  | str z =>
    cases h
    simp only [List.any_cons, List.any_nil, PyData.eqv, kindP, Bool.or_false]
    rw [Bool.eq_iff_iff]
    simp only [Bool.or_eq_true, beq_iff_eq, decide_eq_true_eq]
    exact ⟨fun h => h.imp Eq.symm Eq.symm, fun h => h.imp Eq.symm Eq.symm⟩
  | tup xs => simp only [toD, Option.map_eq_some_iff] at h; obtain ⟨ds, _, rfl⟩ := h; simp [PyData.eqv, kindP]
  | lst xs => simp only [toD, Option.map_eq_some_iff] at h; obtain ⟨ds, _, rfl⟩ := h; simp [PyData.eqv, kindP]
  | rol xs => simp only [toD, Option.map_eq_some_iff] at h; obtain ⟨ds, _, rfl⟩ := h; simp [PyData.eqv, kindP]
  | non => cases h; simp [PyData.eqv, kindP]
  | bl b => cases h; simp [PyData.eqv, kindP]
  | int b => cases h; simp [PyData.eqv, kindP]
  | _ => simp [toD] at h
theorem inn_kinds {k : PV} (hf : flat k = true) (h : plainP k = true) (st : Sto) : sInn true k v_KINDS st = .ok (.bl (!kindP k)) st := by
  obtain ⟨d, h1, h2⟩ := plain_of h
  unfold v_KINDS
  simp only [sInn, toDS_flat hf, h1, toDs, toD, h2, shaped_kinds, Bool.and_self, if_true, any_kinds h1]
def items : PV → List PV
  | .tup xs => xs
  | _ => []
theorem pair2 {x : PV} {xs : List PV} (e : x = .tup xs) : (∃ k f, x = .tup [k, f]) ∨ (isTupP 2 2 x = false ∧ (∀ k f, x ≠ .tup [k, f]) ∧ decide ((xs.length : Int) ≠ 2) = true) := by
  subst e
  match xs with
  | [] => exact .inr ⟨rfl, nofun, rfl⟩
  | [y] => exact .inr ⟨rfl, nofun, rfl⟩
  | [y, z] => exact .inl ⟨y, z, rfl⟩
  | y :: z :: w :: r =>
    refine .inr ⟨?_, nofun, ?_⟩
    · simp only [isTupP, List.length_cons]
      rw [Bool.and_eq_false_iff]
      right
      rw [decide_eq_false_iff_not]
      omega
    · rw [decide_eq_true_eq]
      simp only [List.length_cons]
      omega
def objP (n : Int) : PV → Bool
  | .tup [k, f] => kindP k && (tableP 0 4 f && (items f).all fun x => valP n (snd x))
  | _ => false
theorem objP_no {n : Int} {x : PV} (h : ∀ k f, x ≠ .tup [k, f]) : objP n x = false := by
  unfold objP
  split
  · exact absurd rfl (h _ _)
  · rfl
theorem table_pairs {lo hi : Int} {x : PV} (h : tableP lo hi x = true) : ∃ xs, x = .tup xs ∧ (∀ y ∈ xs, pairP y = true) := by
  cases x with
  | tup xs =>
    simp only [tableP, Bool.and_eq_true] at h
    exact ⟨xs, rfl, List.all_eq_true.mp h.2.1⟩
  | _ => exact nomatch h
theorem dt_snd {x : PV} (h : dt x = true) (hp : pairP x = true) : dt (snd x) = true := by
  obtain ⟨z, y, rfl, _⟩ := pairP_fst hp
  exact (dt_tup h).2 y (by simp)
theorem f_is_object_ok {x : PV} (h : dt x = true) (hk : ∀ k f, x = .tup [k, f] → plainP k = true) (n : Int) (st : Sto) : f_is_object [x, .int n] st = .ok (.bl (objP n x)) st := by
  have hf := dt_flat h
  unfold f_is_object m_is_object
  cases x with
  | tup xs =>
    rcases pair2 (xs := xs) rfl with ⟨k, f, e⟩ | ⟨e1, e2, _⟩
    · cases e
      have hd := (dt_tup h).2
      have hkd := hd k (by simp)
      have hfd := hd f (by simp)
      have e : isTupP 2 2 (.tup [k, f]) = true := rfl
      rcases Bool.eq_false_or_eq_true (kindP k) with hb | hb
      · rcases Bool.eq_false_or_eq_true (tableP 0 4 f) with ht | ht
        · obtain ⟨fs, rfl, hp⟩ := table_pairs ht
          obtain ⟨ff, hfs⟩ := dt_tup hfd
          have e2 := lc_all (it := mIter (mVar 2)) (i := 3) (m := mApp (fnN 2 f_is_field_value) (mCons (mBin sIx (mVar 3) (mC (.int 1))) (mCons (mVar 1) mNil))) (vs := [3])
            (env := [some (.tup [k, .tup fs]), some (.int n), some (.tup fs), none]) (st := st) (g := fun x => valP n (snd x)) rfl ff fun x hm => by
              have hs := dt_snd (hfs x hm) (hp x hm)
              obtain ⟨z, y, rfl, _⟩ := pairP_fst (hp x hm)
              have hs : dt y = true := hs
              simp only [wipeL]
              simp_arith! [ix1, snd, f_is_field_value_ok hs]
          simp_arith! [f_is_tuple_ok hf, e, ix0, ix1, inn_kinds (dt_flat hkd) (hk k _ rfl), hb, v_MOST_FIELDS, f_is_table_ok hfd 0 4 (by decide), ht, e2, sall_map, objP, items]
        · simp_arith! [f_is_tuple_ok hf, e, ix0, ix1, inn_kinds (dt_flat hkd) (hk k _ rfl), hb, v_MOST_FIELDS, f_is_table_ok hfd 0 4 (by decide), ht, objP]
      · simp_arith! [f_is_tuple_ok hf, e, ix0, inn_kinds (dt_flat hkd) (hk k _ rfl), hb, objP]
    · simp_arith! [f_is_tuple_ok hf, e1, objP_no e2]
  | _ => first | (cases hf; done) | simp_arith! [f_is_tuple_ok hf, isTupP, objP]
def namesP (n : Int) (x : PV) : Bool := tableP 1 6 x && (items x).all fun y => numP n (snd y)
theorem f_is_names_ok {x : PV} (h : dt x = true) (n : Int) (st : Sto) : f_is_names [x, .int n] st = .ok (.bl (namesP n x)) st := by
  have hf := dt_flat h
  unfold f_is_names m_is_names
  rcases Bool.eq_false_or_eq_true (tableP 1 6 x) with ht | ht
  · obtain ⟨fs, rfl, hp⟩ := table_pairs ht
    obtain ⟨ff, hfs⟩ := dt_tup h
    have e2 := lc_all (it := mIter (mVar 0)) (i := 2) (m := mApp (fnN 2 f_is_number) (mCons (mBin sIx (mVar 2) (mC (.int 1))) (mCons (mVar 1) mNil))) (vs := [2])
      (env := [some (.tup fs), some (.int n), none]) (st := st) (g := fun x => numP n (snd x)) rfl ff fun x hm => by
        have hs := dt_snd (hfs x hm) (hp x hm)
        obtain ⟨z, y, rfl, _⟩ := pairP_fst (hp x hm)
        have hs : dt y = true := hs
        simp only [wipeL]
        simp_arith! [ix1, snd, f_is_number_ok (dt_flat hs)]
    simp_arith! [v_MOST_NAMES, f_is_table_ok h 1 6 (by decide), ht, e2, sall_map, namesP, items]
  · simp_arith! [v_MOST_NAMES, f_is_table_ok h 1 6 (by decide), ht, namesP]
def webP : PV → Bool
  | .tup [.tup os, ns] => (decide (1 ≤ (os.length : Int)) && decide ((os.length : Int) ≤ 30)) && (namesP os.length ns && os.all (objP os.length))
  | _ => false
/-- the objects' kinds may be asked for -/
def kindsOk : PV → Bool
  | .tup [.tup os, _] => os.all fun o => match o with
    | .tup [k, _] => plainP k
    | _ => true
  | _ => true
theorem webP_no {x : PV} (h : ∀ k f, x ≠ .tup [k, f]) : webP x = false := by
  unfold webP
  split
  · exact absurd rfl (h _ _)
  · rfl
theorem webP_no2 {x n : PV} (h : isTupP 1 30 x = false) : webP (.tup [x, n]) = false := by
  cases x with
  | tup os =>
    simp only [isTupP] at h
    simp only [webP, h, Bool.false_and]
  | _ => rfl
theorem f_is_web_ok {x : PV} (h : dt x = true) (hk : kindsOk x = true) (st : Sto) : f_is_web [x] st = .ok (.bl (webP x)) st := by
  have hf := dt_flat h
  unfold f_is_web m_is_web
  cases x with
  | tup xs =>
    rcases pair2 (xs := xs) rfl with ⟨o, ns, e⟩ | ⟨e1, e2, _⟩
    · cases e
      have hd := (dt_tup h).2
      have hod := hd o (by simp)
      have hnd := hd ns (by simp)
      have e : isTupP 2 2 (.tup [o, ns]) = true := rfl
      rcases Bool.eq_false_or_eq_true (isTupP 1 30 o) with hb | hb
      · cases o with
        | tup os =>
          have hb2 := hb
          simp only [isTupP] at hb2
          obtain ⟨fo, hos⟩ := dt_tup hod
          have hks := List.all_eq_true.mp (show os.all _ = true from hk)
          have e2 := lc_all (it := mIter (mVar 2)) (i := 4) (m := mApp (fnN 2 f_is_object) (mCons (mVar 4) (mCons (mVar 1) mNil))) (vs := [4])
            (env := [some (.tup [.tup os, ns]), some (.int os.length), some (.tup os), some ns, none]) (st := st) (g := objP os.length) rfl fo fun x hm => by
              have q := f_is_object_ok (hos x hm) (fun k f e => by subst e; exact hks _ hm) os.length st
              simp only [wipeL]
              simp_arith! [q]
          simp_arith! [f_is_tuple_ok hf, e, ix0, f_is_tuple_ok (dt_flat hod), v_MOST_OBJECTS, hb, setMany, len_ok_t, f_is_names_ok hnd, e2, sall_map, webP, hb2]
        | _ => exact nomatch hb
      · simp_arith! [f_is_tuple_ok hf, e, ix0, f_is_tuple_ok (dt_flat hod), v_MOST_OBJECTS, hb, webP_no2 hb]
    · simp_arith! [f_is_tuple_ok hf, e1, webP_no e2]
  | _ => first | (cases hf; done) | simp_arith! [f_is_tuple_ok hf, isTupP, webP]
end K01
set_option Elab.async false
set_option linter.all false
set_option maxRecDepth 100000
set_option maxHeartbeats 400000
namespace K01
open PySem PySem.Spec PyProof.Rows L2 Sim Pg
theorem sub_ok (a b : Int) (st : Sto) : sSub (.int a) (.int b) st = .ok (.int (a - b)) st := rfl
theorem eq_int (a b : Int) (st : Sto) : sEqn false (.int a) (.int b) st = .ok (.bl (decide (a = b))) st := rfl
def lt2 : PV → Bool
  | .wtp [x, y] => decide ((txtP (fst x)).cps.toList < (txtP (fst y)).cps.toList)
  | _ => true
theorem cut1 (xs : List PV) : cutP xs (some 1) none = xs.drop 1 := by
  unfold cutP
  have e : HT.sIx xs.length 0 (some 1) = min 1 xs.length := HT.sIx_nat xs.length 0 1
  rw [e, HT.sIx_none]
  cases xs with
  | nil => rfl
  | cons x r =>
    have e2 : min 1 (x :: r).length = 1 := by simp only [List.length_cons]; omega
    rw [e2]
    simp only [List.drop_one, List.tail_cons, List.length_cons, Nat.add_sub_cancel, List.take_length]
def refP (n : Int) : PV → Bool
  | .tup [u] => numP n u
  | _ => false
/-- the names may be asked whether they are () -/
def namesOk : PV → Bool
  | .tup [.tup _, ns] => !tableP 0 6 ns || plainP ns
  | _ => true
theorem table0 {hi : Int} {xs : List PV} : tableP 1 hi (.tup xs) = (tableP 0 hi (.tup xs) && !decide (xs = [])) := by
  cases xs with
  | nil => simp [tableP]
  | cons x xs =>
    rw [Bool.eq_iff_iff]
    simp only [tableP, Bool.and_eq_true, decide_eq_true_eq, List.length_cons, reduceCtorEq, decide_false, Bool.not_false, and_true]
    constructor
    · rintro ⟨⟨_, h1⟩, h2⟩; exact ⟨⟨by omega, h1⟩, h2⟩
    · rintro ⟨⟨_, h1⟩, h2⟩; exact ⟨⟨by omega, h1⟩, h2⟩
end K01
set_option Elab.async false
set_option linter.all false
set_option maxRecDepth 100000
set_option maxHeartbeats 400000
namespace K01
open PySem PySem.Spec PyProof.Rows L2 Sim Pg
structure Nice (x : PV) : Prop where
  nv : nv 8 x = true
  sz : sz x ≤ 2 ^ 20
  ks : kindsOk x = true
  ns : namesOk x = true
theorem Nice.dt {x : PV} (h : Nice x) : dt x = true := nv_dt h.nv h.sz
/-! ### digits -/
theorem ixM (st : Sto) (k : Nat) (x : PV) (xs : List PV) (h : st[k]? = some (.lst (x :: xs))) : sIx (.ref k) (.int 0) st = .ok x st := by
  have e : atI (x :: xs) 0 = some x := atI_nat (xs := x :: xs) (i := 0) (by simp)
  simp only [sIx, asD, asL, h, e]
theorem int_ok (a : Int) (st : Sto) : sInt [.int a] st = .ok (.int a) st := rfl
theorem mod_ok (a b : Int) (hb : 0 < b) (st : Sto) : sMod (.int a) (.int b) st = .ok (.int (a % b)) st := by
  simp only [sMod, decide_eq_true hb, if_true]
theorem div_ok (a b : Int) (hb : 0 < b) (hl : b.natAbs.log2 < 9000) (st : Sto) : sDiv (.int a) (.int b) st = .ok (.int (a / b)) st := by
  simp only [sDiv, decide_eq_true hb, decide_eq_true hl, Bool.and_self, if_true]
theorem log_of {b : Int} (h : b < 10000000000) (h0 : 0 < b) : b.natAbs.log2 < 9000 := by
  have h1 : b.natAbs < 2 ^ 40 := by have : (2 : Nat) ^ 40 = 1099511627776 := by decide
                                    omega
  have := (Nat.log2_lt (by omega)).mpr h1
  omega
theorem setIx_ok (st : Sto) (k : Nat) (x v : PV) (h : st[k]? = some (.lst [x])) : sSetIx (.ref k) (.int 0) v st = .ok () (st.set k (.lst [v])) := by
  simp only [sSetIx, h]
  rfl
/-- a digit: what remains is in the list of one -/
theorem f__law_take_ok {st : Sto} {k : Nat} {a n : Int} (h : st[k]? = some (.lst [.int a])) (h0 : 0 < n) (h1 : n < 10000000000) :
    f__law_take [.ref k, .int n] st = .ok (.int (a % n)) (st.set k (.lst [.int (a / n)])) := by
  have hk : k < st.length := by
    rcases Nat.lt_or_ge k st.length with q | q
    · exact q
    · rw [List.getElem?_eq_none q] at h; cases h
  unfold f__law_take m__law_take
  simp_arith! [ixM st k _ _ h, int_ok, mod_ok _ _ h0, div_ok _ _ h0 (log_of h1 h0), cSetIx, setIx_ok st k _ _ h]
  rw [gc_fit]
  · congr 1
    rw [List.take_of_length_le (by simp)]
  · rfl
  · simp
  · intro i b hi hb
    rw [List.getElem?_set] at hb
    split at hb
    · rename_i e
      cases hb
      exact .inr rfl
    · exact .inl hb
theorem take_sp {st : Sto} {k : Nat} {n : Int} (h : ∃ a : Int, st[k]? = some (.lst [.int a])) (h0 : 0 < n) (h1 : n < 10000000000) :
    ∃ d a, f__law_take [.ref k, .int n] st = .ok (.int d) (st.set k (.lst [.int a])) ∧ 0 ≤ d ∧ d < n := by
  obtain ⟨a, h⟩ := h
  exact ⟨_, _, f__law_take_ok h h0 h1, Int.emod_nonneg _ (by omega), Int.emod_lt_of_pos _ h0⟩
end K01
set_option Elab.async false
set_option linter.all false
set_option maxRecDepth 100000
set_option maxHeartbeats 1000000
namespace K01
open PySem PySem.Spec PyProof.Rows L2 Sim Pg
/-! ### drawn fields -/
structure FieldOk (n : Int) (x : PV) : Prop where
  pr : pairP x = true
  vl : valP n (snd x) = true
  nv : nv 2 x = true
  pl : pl x = true
  sz : sz x ≤ 20
theorem ref_val {n d : Int} (h0 : 0 ≤ d) (h1 : d < n) (hn : n < 1000000) : valP n (.tup [.int d]) = true := by
  simp only [valP, isIntP, numP, Bool.false_or, Bool.and_eq_true, decide_eq_true_eq]
  omega
theorem ref_nv {d : Int} (h0 : 0 ≤ d) (h1 : d < 1000000) : nv 1 (.tup [.int d]) = true := by
  simp only [nv, nvs, Bool.and_true, Bool.and_eq_true, decide_eq_true_eq]
  omega
theorem int_val {n d : Int} (h0 : -999999999 ≤ d) (h1 : d ≤ 999999999) : valP n (.int d) = true := by
  simp only [valP, isIntP, Bool.or_false, Bool.and_eq_true, decide_eq_true_eq]
  omega
theorem int_nv {k : Nat} {d : Int} (h0 : -999999999 ≤ d) (h1 : d ≤ 999999999) : nv k (.int d) = true := by
  simp only [nv, Bool.and_eq_true, decide_eq_true_eq]
  omega
end K01
set_option Elab.async false
set_option linter.all false
set_option maxRecDepth 100000
set_option maxHeartbeats 1000000
namespace K01
open PySem PySem.Spec PyProof.Rows L2 Sim Pg
/-! ### drawn webs -/
structure ObjOk (n : Int) (x : PV) : Prop where
  ob : objP n x = true
  hnv : nv 4 x = true
  hpl : pl x = true
  hsz : sz x ≤ 200
  sh : ∃ z fs, x = .tup [.str z, .tup fs] ∧ fs.length ≤ 4 ∧ plainP (.str z) = true ∧ nv 1 (.str z) = true ∧ z.cps.size ≤ 8 ∧ ∀ f ∈ fs, FieldOk n f
theorem szs_le {xs : List PV} {m : Nat} (h : ∀ x ∈ xs, sz x ≤ m) : szs xs ≤ xs.length * (m + 1) := by
  induction xs with
  | nil => simp [szs]
  | cons x xs ih =>
    have h1 := h x (List.mem_cons_self ..)
    have h2 := ih fun y hy => h y (List.mem_cons_of_mem _ hy)
    simp only [szs, List.length_cons, Nat.add_mul, Nat.one_mul]
    omega
theorem table_of {m : Int} {fs : List PV} (h : ∀ x ∈ fs, pairP x = true) (hp : (wordsP fs).Pairwise ltS) (hl : (fs.length : Int) ≤ m) : tableP 0 m (.tup fs) = true := by
  simp only [tableP, ascP, ← up_sort, Bool.and_eq_true, decide_eq_true_eq, List.all_eq_true]
  exact ⟨⟨by omega, hl⟩, h, up_pw.mpr hp⟩
def kinds3 : List PV := [.str "open", .str "frozen", .str "frozen"]
theorem kinds3_ok : ∀ x ∈ kinds3, ∃ z, x = .str z ∧ kindP (.str z) = true ∧ plainP (.str z) = true ∧ Sim.nv 1 (.str z) = true ∧ z.cps.size ≤ 8 := by
  intro x hx
  simp only [kinds3, List.mem_cons, List.not_mem_nil, or_false] at hx
  rcases hx with rfl | rfl | rfl
  · exact ⟨"open", rfl, by decide +kernel, by decide +kernel, by decide +kernel, by decide +kernel⟩
  · exact ⟨"frozen", rfl, by decide +kernel, by decide +kernel, by decide +kernel, by decide +kernel⟩
  · exact ⟨"frozen", rfl, by decide +kernel, by decide +kernel, by decide +kernel, by decide +kernel⟩
theorem obj_of {n : Int} {x : PV} {fs : List PV} (hx : x ∈ kinds3) (hf : ∀ f ∈ fs, FieldOk n f) (hp : (wordsP fs).Pairwise ltS) (hl : fs.length ≤ 4) : ObjOk n (.tup [x, .tup fs]) := by
  obtain ⟨z, rfl, k1, k2, k3, k4⟩ := kinds3_ok x hx
  have h1 : Sim.nv 3 (.tup fs) = true := nvs_iff.mpr fun x hx => (hf x hx).nv
  have h2 : Sim.pl (.tup fs) = true := pls_iff.mpr fun x hx => (hf x hx).pl
  have h3 := szs_le fun x hx => (hf x hx).sz
  have h4 : fs.length * (20 + 1) ≤ 4 * 21 := Nat.mul_le_mul_right _ hl
  refine ⟨?_, ?_, ?_, ?_, z, fs, rfl, hl, k2, k3, k4, hf⟩
  · simp only [objP, k1, Bool.true_and, Bool.and_eq_true, items, List.all_eq_true]
    exact ⟨table_of (fun x hx => (hf x hx).pr) hp (by omega), fun x hx => (hf x hx).vl⟩
  · show (Sim.nv 3 (.str z) && (Sim.nv 3 (.tup fs) && true)) = true
    rw [nv_mono (by decide) k3, h1]; rfl
  · show (true && (Sim.pl (.tup fs) && true)) = true
    rw [h2]; rfl
  · simp only [Sim.sz, szs]; omega
theorem cutTo (xs : List PV) (m : Nat) : cutP xs none (some (m : Int)) = xs.take m := by
  unfold cutP
  rw [HT.sIx_none, HT.sIx_nat, List.drop_zero, Nat.sub_zero]
  rcases Nat.le_total m xs.length with h | h
  · rw [Nat.min_eq_left h]
  · rw [Nat.min_eq_right h, List.take_length, List.take_of_length_le h]
structure NameOk (n : Int) (x : PV) : Prop where
  is : ∃ w d, x = .tup [.str w, .int d] ∧ wordP (.str w) = true ∧ Sim.nv 1 (.str w) = true ∧ w.cps.size ≤ 8 ∧ 0 ≤ d ∧ d < n
structure WebOk (xs ys : List PV) : Prop where
  pos : 1 ≤ xs.length
  most : xs.length ≤ 30
  os : ∀ o ∈ xs, ObjOk xs.length o
  ns : ∀ y ∈ ys, NameOk xs.length y
  up : (wordsP ys).Pairwise ltS
  n1 : 1 ≤ ys.length
  n6 : ys.length ≤ 6
theorem web_data {os ns : List PV} {m : Int} (hm : m ≤ 30) (ho : ∀ o ∈ os, ObjOk m o) (hn : ∀ y ∈ ns, NameOk m y) : Sim.nv 6 (.tup [.tup os, .tup ns]) = true ∧ Sim.pl (.tup [.tup os, .tup ns]) = true := by
  have h1 : Sim.nv 5 (.tup os) = true := nvs_iff.mpr fun x hx => (ho x hx).hnv
  have h2 : Sim.nv 5 (.tup ns) = true := nvs_iff.mpr fun x hx => by
    obtain ⟨w, d, rfl, _, q, _, q1, q2⟩ := (hn x hx).is
    show (Sim.nv 3 (.str w) && (Sim.nv 3 (.int d) && true)) = true
    rw [nv_mono (by decide) q, int_nv (by omega) (by omega)]; rfl
  have h3 : Sim.pl (.tup os) = true := pls_iff.mpr fun x hx => (ho x hx).hpl
  have h4 : Sim.pl (.tup ns) = true := pls_iff.mpr fun x hx => by
    obtain ⟨w, d, rfl, _⟩ := (hn x hx).is
    rfl
  refine ⟨?_, ?_⟩
  · show (Sim.nv 5 (.tup os) && (Sim.nv 5 (.tup ns) && true)) = true
    rw [h1, h2]; rfl
  · show (Sim.pl (.tup os) && (Sim.pl (.tup ns) && true)) = true
    rw [h3, h4]; rfl
theorem addI (a b : Int) (st : Sto) : sAdd (.int a) (.int b) st = .ok (.int (a + b)) st := rfl
end K01
set_option Elab.async false
set_option linter.all false
set_option maxRecDepth 100000
set_option maxHeartbeats 1000000
namespace K01
open PySem PySem.Spec PyProof.Rows L2 Sim Pg
/-! ### what is handed in -/
structure ObN (o : PV) : Prop where
  v : nv 6 o = true
  s : sz o ≤ 1000
  p : ∀ k f, o = .tup [k, f] → plainP k = true
structure HdN (y : PV) : Prop where
  v : nv 6 y = true
  p : pl y = true
  s : sz y ≤ 100
theorem plainP_of {n : Nat} {x : PV} (hn : n ≤ 64) (h : nv n x = true) (hp : pl x = true) : plainP x = true := by
  obtain ⟨d, q1, q2⟩ := plain_shaped hn h hp
  unfold plainP
  rw [q1]; exact q2
theorem nice_web {os ns : List PV} (ho : ∀ o ∈ os, ObN o) (hn : ∀ y ∈ ns, HdN y) (h1 : os.length ≤ 100) (h2 : ns.length ≤ 100) : Nice (.tup [.tup os, .tup ns]) := by
  have v1 : nv 7 (.tup os) = true := nvs_iff.mpr fun x hx => (ho x hx).v
  have v2 : nv 7 (.tup ns) = true := nvs_iff.mpr fun x hx => (hn x hx).v
  have p2 : pl (.tup ns) = true := pls_iff.mpr fun x hx => (hn x hx).p
  have s1 := szs_le fun x hx => (ho x hx).s
  have s2 := szs_le fun x hx => (hn x hx).s
  have l1 : os.length * (1000 + 1) ≤ 100 * 1001 := Nat.mul_le_mul_right _ h1
  have l2 : ns.length * (100 + 1) ≤ 100 * 101 := Nat.mul_le_mul_right _ h2
  refine ⟨?_, ?_, ?_, ?_⟩
  · show (nv 7 (.tup os) && (nv 7 (.tup ns) && true)) = true
    rw [v1, v2]; rfl
  · have e : (2 : Nat) ^ 20 = 1048576 := by decide
    simp only [sz, szs]; omega
  · simp only [kindsOk, List.all_eq_true]
    intro o hm
    split
    · exact (ho _ hm).p _ _ rfl
    · rfl
  · simp only [namesOk, plainP_of (by decide) v2 p2, Bool.or_true]
theorem ObjOk.n {n : Int} {o : PV} (h : ObjOk n o) : ObN o := by
  refine ⟨nv_mono (by decide) h.hnv, by have := h.hsz; omega, fun k f e => ?_⟩
  obtain ⟨z, fs, e2, _, q, _⟩ := h.sh
  rw [e] at e2
  simp only [PV.tup.injEq, List.cons.injEq] at e2
  rw [e2.1]; exact q
theorem name_hd {w : Str} {d : Int} (h1 : nv 1 (.str w) = true) (h2 : w.cps.size ≤ 8) (h3 : 0 ≤ d) (h4 : d ≤ 1000) : HdN (.tup [.str w, .int d]) := by
  refine ⟨?_, rfl, by simp only [sz, szs]; omega⟩
  show (nv 5 (.str w) && (nv 5 (.int d) && true)) = true
  rw [nv_mono (by decide) h1, int_nv (by omega) (by omega)]; rfl
theorem NameOk.n {n : Int} {y : PV} (h : NameOk n y) (hn : n ≤ 1000) : HdN y := by
  obtain ⟨w, d, rfl, _, q1, q2, q3, q4⟩ := h.is
  exact name_hd q1 q2 q3 (by omega)
theorem web_nice {os ns : List PV} (h : WebOk os ns) : Nice (.tup [.tup os, .tup ns]) :=
  nice_web (fun o ho => (h.os o ho).n) (fun y hy => (h.ns y hy).n (by have := h.most; omega)) (by have := h.most; omega) (by have := h.n6; omega)
theorem web_is {os ns : List PV} (h : WebOk os ns) : webP (.tup [.tup os, .tup ns]) = true := by
  have h1 := h.pos
  have h2 := h.most
  have t : tableP 1 6 (.tup ns) = true := by
    have := h.n1
    have := h.n6
    have hp : ∀ x ∈ ns, pairP x = true := fun x hx => by
      obtain ⟨w, d, rfl, q, _⟩ := (h.ns x hx).is
      exact q
    rw [table0, table_of hp h.up (by omega)]
    cases ns with
    | nil => exact absurd h.n1 (by decide)
    | cons a b => rfl
  simp only [webP, namesP, t, items, Bool.true_and, Bool.and_eq_true, decide_eq_true_eq, List.all_eq_true]
  refine ⟨⟨by omega, by omega⟩, fun x hx => ?_, fun o ho => (h.os o ho).ob⟩
  obtain ⟨w, d, rfl, _, _, _, q3, q4⟩ := (h.ns x hx).is
  show numP os.length (.int d) = true
  simp only [numP, Bool.and_eq_true, decide_eq_true_eq]
  omega
/-! ### a web bent in one place -/
theorem pow9 (st : Sto) : sPow (.int 10) (.int 9) st = .ok (.int 1000000000) st := rfl
theorem addL {xs ys : List PV} (h : fitL (xs ++ ys) = true) (st : Sto) : sAdd (.lst xs) (.lst ys) st = .ok (.lst (xs ++ ys)) st := by
  simp only [sAdd, asM, h, if_true]
theorem setI {st : Sto} {L : Nat} {xs : List PV} (h : st[L]? = some (.lst xs)) {i : Nat} (hi : i < xs.length) (v : PV) : sSetIx (.ref L) (.int i) v st = .ok () (st.set L (.lst (xs.set i v))) := by
  have e : ixN xs.length (i : Int) = some i := by
    unfold ixN
    rw [if_pos (by omega), if_pos (by omega)]
    simp
  simp only [sSetIx, h, e]
end K01
set_option Elab.async false
set_option linter.all false
set_option maxRecDepth 100000
set_option maxHeartbeats 1000000
namespace K01
open PySem PySem.Spec PyProof.Rows L2 Sim Pg
/-! ### webs as such -/
inductive Vl where
  | int (i : Int) | ref (n : Nat)
  deriving DecidableEq
structure Ob where
  kind : Str
  fs : List (Str × Vl)
  deriving DecidableEq
structure Web where
  os : List Ob
  ns : List (Str × Nat)
  deriving DecidableEq
def Vl.pv : Vl → PV
  | .int i => .int i
  | .ref n => .tup [.int (n : Nat)]
def fpv (p : Str × Vl) : PV := .tup [.str p.1, p.2.pv]
def npv (p : Str × Nat) : PV := .tup [.str p.1, .int (p.2 : Nat)]
def Ob.pv (o : Ob) : PV := .tup [.str o.kind, .tup (o.fs.map fpv)]
def Web.pv (w : Web) : PV := .tup [.tup (w.os.map Ob.pv), .tup (w.ns.map npv)]
def Vl.Ok (n : Nat) : Vl → Prop
  | .int i => -999999999 ≤ i ∧ i ≤ 999999999
  | .ref m => m < n
def Wd (z : Str) : Prop := wordP (.str z) = true
structure Ob.Ok (n : Nat) (o : Ob) : Prop where
  kd : o.kind = "open" ∨ o.kind = "frozen"
  f4 : o.fs.length ≤ 4
  up : (o.fs.map (·.1)).Pairwise ltS
  wd : ∀ p ∈ o.fs, Wd p.1
  vl : ∀ p ∈ o.fs, p.2.Ok n
structure Web.Ok (w : Web) : Prop where
  o1 : 1 ≤ w.os.length
  o30 : w.os.length ≤ 30
  ob : ∀ o ∈ w.os, o.Ok w.os.length
  n1 : 1 ≤ w.ns.length
  n6 : w.ns.length ≤ 6
  up : (w.ns.map (·.1)).Pairwise ltS
  wd : ∀ p ∈ w.ns, Wd p.1
  lt : ∀ p ∈ w.ns, p.2 < w.os.length
theorem map_inj {α : Type} {f : α → PV} (h : ∀ a b, f a = f b → a = b) : ∀ {l m : List α}, l.map f = m.map f → l = m
  | [], [], _ => rfl
  | [], _ :: _, e => by simp at e
  | _ :: _, [], e => by simp at e
  | a :: l, b :: m, e => by
    simp only [List.map_cons, List.cons.injEq] at e
    rw [h a b e.1, map_inj h e.2]
theorem Vl.pv_inj (a b : Vl) (h : a.pv = b.pv) : a = b := by
  cases a with
  | int i => cases b with
    | int j => simp only [Vl.pv, PV.int.injEq] at h; rw [h]
    | ref m => simp [Vl.pv] at h
  | ref n => cases b with
    | int j => simp [Vl.pv] at h
    | ref m =>
      simp only [Vl.pv, PV.tup.injEq, List.cons.injEq, PV.int.injEq, and_true] at h
      rw [Int.ofNat.inj h]
theorem fpv_inj (a b : Str × Vl) (h : fpv a = fpv b) : a = b := by
  simp only [fpv, PV.tup.injEq, List.cons.injEq, PV.str.injEq, and_true] at h
  exact Prod.ext h.1 (Vl.pv_inj _ _ h.2)
theorem npv_inj (a b : Str × Nat) (h : npv a = npv b) : a = b := by
  simp only [npv, PV.tup.injEq, List.cons.injEq, PV.str.injEq, PV.int.injEq, and_true] at h
  exact Prod.ext h.1 (Int.ofNat.inj h.2)
theorem Ob.pv_inj (a b : Ob) (h : a.pv = b.pv) : a = b := by
  obtain ⟨k, f⟩ := a
  obtain ⟨k', f'⟩ := b
  simp only [Ob.pv, PV.tup.injEq, List.cons.injEq, PV.str.injEq, and_true] at h
  rw [h.1, map_inj fpv_inj h.2]
theorem Web.pv_inj (a b : Web) (h : a.pv = b.pv) : a = b := by
  obtain ⟨k, f⟩ := a
  obtain ⟨k', f'⟩ := b
  simp only [Web.pv, PV.tup.injEq, List.cons.injEq, and_true] at h
  rw [map_inj Ob.pv_inj h.1, map_inj npv_inj h.2]
/-! from data to webs -/
theorem num_of {n : Int} {x : PV} (h : numP n x = true) : ∃ m : Nat, x = .int (m : Nat) ∧ (m : Int) < n := by
  unfold numP at h
  split at h
  · rename_i i
    simp only [Bool.and_eq_true, decide_eq_true_eq] at h
    exact ⟨i.toNat, by rw [Int.toNat_of_nonneg h.2.1], by omega⟩
  · cases h
theorem vl_of {n : Nat} {x : PV} (h : valP n x = true) : ∃ v : Vl, x = v.pv ∧ v.Ok n := by
  unfold valP at h
  rcases Bool.or_eq_true_iff.mp h with h | h
  · unfold isIntP at h
    split at h
    · simp only [Bool.and_eq_true, decide_eq_true_eq] at h
      exact ⟨.int _, rfl, h⟩
    · cases h
  · split at h
    · obtain ⟨m, rfl, hm⟩ := num_of h
      exact ⟨.ref m, rfl, by simp only [Vl.Ok]; omega⟩
    · cases h
theorem list_of {α : Type} {P : PV → Prop} {R : α → Prop} {f : α → PV} : ∀ {xs : List PV}, (∀ x ∈ xs, P x) → (∀ x, P x → ∃ a, x = f a ∧ R a) → ∃ as : List α, xs = as.map f ∧ ∀ a ∈ as, R a
  | [], _, _ => ⟨[], rfl, nofun⟩
  | x :: xs, h, g => by
    obtain ⟨a, rfl, ra⟩ := g x (h x (List.mem_cons_self ..))
    obtain ⟨as, rfl, ras⟩ := list_of (xs := xs) (fun y hy => h y (List.mem_cons_of_mem _ hy)) g
    exact ⟨a :: as, rfl, fun b hb => (List.mem_cons.mp hb).elim (fun e => e ▸ ra) (ras b)⟩
theorem table_of2 {lo hi : Int} {x : PV} (h : tableP lo hi x = true) : ∃ xs, x = .tup xs ∧ lo ≤ xs.length ∧ (xs.length : Int) ≤ hi ∧ (∀ y ∈ xs, pairP y = true) ∧ (wordsP xs).Pairwise ltS := by
  unfold tableP at h
  split at h
  · rename_i xs
    simp only [Bool.and_eq_true, decide_eq_true_eq, List.all_eq_true, ascP, ← up_sort] at h
    exact ⟨xs, rfl, h.1.1, h.1.2, h.2.1, up_pw.mp h.2.2⟩
  · cases h
theorem words_fpv (fs : List (Str × Vl)) : wordsP (fs.map fpv) = fs.map (·.1) := by
  simp only [wordsP, List.map_map]; rfl
theorem words_npv (fs : List (Str × Nat)) : wordsP (fs.map npv) = fs.map (·.1) := by
  simp only [wordsP, List.map_map]; rfl
theorem ob_of {n : Nat} {x : PV} (h : objP n x = true) : ∃ o : Ob, x = o.pv ∧ o.Ok n := by
  unfold objP at h
  split at h
  · rename_i k f
    simp only [Bool.and_eq_true] at h
    obtain ⟨hk, ht, hv⟩ := h
    obtain ⟨xs, rfl, _, h4, hp, hu⟩ := table_of2 ht
    simp only [items, List.all_eq_true] at hv
    obtain ⟨fs, rfl, hf⟩ := list_of (α := Str × Vl) (P := fun x => pairP x = true ∧ valP n (snd x) = true) (R := fun p => Wd p.1 ∧ p.2.Ok n) (f := fpv) (xs := xs) (fun x hx => ⟨hp x hx, hv x hx⟩) (by
      rintro x ⟨h1, h2⟩
      obtain ⟨z, y, rfl, hw⟩ := pairP_fst h1
      obtain ⟨v, e, hv⟩ := vl_of h2
      refine ⟨(z, v), ?_, hw, hv⟩
      have e : y = v.pv := e
      rw [e]; rfl)
    rw [words_fpv] at hu
    cases k with
    | str z =>
      simp only [kindP, Bool.or_eq_true, decide_eq_true_eq] at hk
      exact ⟨⟨z, fs⟩, rfl, hk, by rw [List.length_map] at h4; show fs.length ≤ 4; omega, hu, fun p hp => (hf p hp).1, fun p hp => (hf p hp).2⟩
    | _ => exact nomatch hk
  · cases h
theorem web_of {x : PV} (h : webP x = true) : ∃ w : Web, x = w.pv ∧ w.Ok := by
  unfold webP at h
  split at h
  · rename_i os ns
    simp only [Bool.and_eq_true, decide_eq_true_eq, namesP, List.all_eq_true] at h
    obtain ⟨⟨h1, h30⟩, ⟨ht, hn⟩, ho⟩ := h
    obtain ⟨xs, rfl, t1, t6, tp, tu⟩ := table_of2 ht
    simp only [items] at hn
    obtain ⟨obs, rfl, hob⟩ := list_of (α := Ob) (P := fun x => objP os.length x = true) (R := fun o => o.Ok os.length) (f := Ob.pv) ho (fun x hx => ob_of hx)
    obtain ⟨ns, rfl, hns⟩ := list_of (α := Str × Nat) (P := fun x => pairP x = true ∧ numP (obs.map Ob.pv).length (snd x) = true) (R := fun p => Wd p.1 ∧ p.2 < obs.length) (f := npv) (fun x hx => ⟨tp x hx, hn x hx⟩) (by
      rintro x ⟨h1, h2⟩
      obtain ⟨z, y, rfl, hw⟩ := pairP_fst h1
      obtain ⟨m, e, hm⟩ := num_of h2
      refine ⟨(z, m), ?_, hw, by simpa using hm⟩
      have e : y = .int (m : Nat) := e
      rw [e]; rfl)
    rw [words_npv] at tu
    simp only [List.length_map] at h1 h30 t1 t6 hob
    exact ⟨⟨obs, ns⟩, rfl, by show 1 ≤ obs.length; omega, by show obs.length ≤ 30; omega, hob, by show 1 ≤ ns.length; omega, by show ns.length ≤ 6; omega, tu, fun p hp => (hns p hp).1, fun p hp => (hns p hp).2⟩
  · cases h
theorem ok_of {w : Web} (h : webP w.pv = true) : w.Ok := by
  obtain ⟨v, e, hv⟩ := web_of h
  rw [Web.pv_inj _ _ e]; exact hv
/-! from webs to data -/
theorem Wd.len {z : Str} (h : Wd z) : z.cps.size ≤ 8 := by
  unfold Wd wordP at h
  simp only [Bool.and_eq_true, decide_eq_true_eq] at h
  have : z.length = z.cps.size := rfl
  omega
theorem Wd.nv {z : Str} (h : Wd z) (n : Nat) : nv n (.str z) = true := by
  have hl := h.len
  unfold Wd wordP at h
  simp only [Bool.and_eq_true, List.all_eq_true, low26, decide_eq_true_eq] at h
  simp only [Sim.nv, Bool.and_eq_true, decide_eq_true_eq, List.all_eq_true]
  refine ⟨?_, fun c hc => ?_⟩
  · have : z.length = z.cps.size := rfl
    omega
  · have := h.2 c hc; omega
theorem Vl.nv {n : Nat} {v : Vl} (h : v.Ok n) (hn : n ≤ 1000) : Sim.nv 1 v.pv = true ∧ Sim.pl v.pv = true ∧ sz v.pv ≤ 1 ∧ valP n v.pv = true := by
  cases v with
  | int i => exact ⟨int_nv h.1 h.2, rfl, by simp [Vl.pv, sz], int_val h.1 h.2⟩
  | ref m =>
    have h : m < n := h
    exact ⟨ref_nv (by omega) (by omega), rfl, by simp [Vl.pv, sz, szs], ref_val (by omega) (by omega) (by omega)⟩
theorem fpv_ok {n : Nat} {p : Str × Vl} (hw : Wd p.1) (hv : p.2.Ok n) (hn : n ≤ 1000) : FieldOk n (fpv p) := by
  obtain ⟨h1, h2, h3, h4⟩ := Vl.nv hv hn
  refine ⟨hw, h4, ?_, ?_, ?_⟩
  · show (Sim.nv 1 (.str p.1) && (Sim.nv 1 p.2.pv && true)) = true
    rw [hw.nv, h1]; rfl
  · show (true && (Sim.pl p.2.pv && true)) = true
    rw [h2]; rfl
  · have := hw.len
    simp only [fpv, sz, szs]; omega
theorem kind_ok {z : Str} (h : z = "open" ∨ z = "frozen") : .str z ∈ kinds3 := by
  rcases h with rfl | rfl
  · exact List.mem_cons_self ..
  · exact List.mem_cons_of_mem _ (List.mem_cons_self ..)
theorem Ob.Ok.data {n : Nat} {o : Ob} (h : o.Ok n) (hn : n ≤ 1000) : ObjOk n o.pv := by
  refine obj_of (fs := o.fs.map fpv) (kind_ok h.kd) (fun f hf => ?_) (by rw [words_fpv]; exact h.up) (by simpa using h.f4)
  obtain ⟨p, hp, rfl⟩ := List.mem_map.mp hf
  exact fpv_ok (h.wd p hp) (h.vl p hp) hn
theorem Web.Ok.data {w : Web} (h : w.Ok) : WebOk (w.os.map Ob.pv) (w.ns.map npv) := by
  have h30 := h.o30
  refine ⟨by simpa using h.o1, by simpa using h.o30, fun o ho => ?_, fun y hy => ?_, by rw [words_npv]; exact h.up, by simpa using h.n1, by simpa using h.n6⟩
  · obtain ⟨b, hb, rfl⟩ := List.mem_map.mp ho
    rw [List.length_map]
    exact (h.ob b hb).data (by omega)
  · obtain ⟨p, hp, rfl⟩ := List.mem_map.mp hy
    rw [List.length_map]
    exact ⟨p.1, p.2, rfl, h.wd p hp, (h.wd p hp).nv 1, (h.wd p hp).len, by omega, by have := h.lt p hp; omega⟩
theorem Web.Ok.nice {w : Web} (h : w.Ok) : Nice w.pv := web_nice h.data
theorem Web.Ok.is {w : Web} (h : w.Ok) : webP w.pv = true := web_is h.data
theorem Web.Ok.nvpl {w : Web} (h : w.Ok) : Sim.nv 6 w.pv = true ∧ Sim.pl w.pv = true := by
  have h30 := h.o30
  exact web_data (m := (w.os.length : Int)) (by omega) (fun o ho => by have := h.data.os o ho; rwa [List.length_map] at this) (fun o ho => by have := h.data.ns o ho; rwa [List.length_map] at this)
theorem is_web_ok {w : Web} (h : w.Ok) (st : Sto) : f_is_web [w.pv] st = .ok (.bl true) st := by
  rw [f_is_web_ok h.nice.dt h.nice.ks st, h.is]
theorem take_w {st : Sto} {k : Nat} {n : Int} (h : Dr k st) (h0 : 0 < n) (h1 : n < 10000000000) : wR (f__law_take [.ref k, .int n] st) (fun v s => ∃ d : Int, v = .int d ∧ 0 ≤ d ∧ d < n ∧ Up k st s) := by
  obtain ⟨d, a, e, q1, q2⟩ := take_sp h h0 h1
  exact wR_eq e ⟨d, rfl, q1, q2, a, rfl⟩
end K01
set_option Elab.async false
set_option linter.all false
set_option maxRecDepth 100000
set_option maxHeartbeats 1000000
namespace K01
open PySem PySem.Spec PyProof.Rows L2 Sim Pg
/-! ### tables -/
def asc {α : Type} : List (Str × α) → Str → Option α
  | [], _ => none
  | p :: r, k => if p.1 = k then some p.2 else asc r k
theorem asc_mem {α : Type} : ∀ {l : List (Str × α)} {k : Str} {v : α}, asc l k = some v → (k, v) ∈ l
  | p :: r, k, v, h => by
    unfold asc at h
    split at h
    · rename_i e; cases h; subst e; exact List.mem_cons_self ..
    · exact List.mem_cons_of_mem _ (asc_mem h)
/-! ### to follow a path -/
def stepV (w : Web) (v : Option Vl) (k : Str) : Option Vl := match v with
  | some (.ref n) => (w.os[n]?).bind fun o => asc o.fs k
  | _ => none
def ppath (p : List Str) : PV := .tup (p.map .str)
def VOk (w : Web) (v : Option Vl) : Prop := ∀ n, v = some (.ref n) → n < w.os.length
theorem VOk.start {w : Web} (h : w.Ok) (k : Str) : VOk w ((asc w.ns k).map .ref) := fun n e => by
  obtain ⟨m, e1, e2⟩ := Option.map_eq_some_iff.mp e
  cases e2
  exact h.lt _ (asc_mem e1)
theorem VOk.step {w : Web} (h : w.Ok) (v : Option Vl) (k : Str) : VOk w (stepV w v k) := fun n e => by
  unfold stepV at e
  split at e
  · rename_i m
    obtain ⟨o, eo, e2⟩ := Option.bind_eq_some_iff.mp e
    have hm := asc_mem e2
    have ho : o ∈ w.os := List.mem_of_getElem? eo
    exact (h.ob o ho).vl _ hm
  · cases e
theorem ixT {xs : List PV} {i : Nat} {x : PV} (h : xs[i]? = some x) (st : Sto) : sIx (.tup xs) (.int (i : Nat)) st = .ok x st := by
  obtain ⟨hi, rfl⟩ := List.getElem?_eq_some_iff.mp h
  simp only [sIx, atI_nat hi]
theorem ix0s (x : PV) (xs : List PV) (st : Sto) : sIx (.tup (x :: xs)) (.int 0) st = .ok x st := ix0 st
theorem ix1s (x y : PV) (xs : List PV) (st : Sto) : sIx (.tup (x :: y :: xs)) (.int 1) st = .ok y st := ix1 st
def isRef : Option Vl → Bool
  | some (.ref _) => true
  | _ => false
theorem obs_at {w : Web} {n : Nat} {o : Ob} (h : w.os[n]? = some o) (st : Sto) : sIx (.tup (w.os.map Ob.pv)) (.int (n : Nat)) st = .ok o.pv st := ixT (by rw [List.getElem?_map, h]; rfl) st
theorem w_eq {r : Res PV} {v : PV} {st : Sto} (h : wR r (fun a s => a = v ∧ s = st)) : r = .ok v st := by
  obtain ⟨a, s, e, rfl, rfl⟩ := h.get
  exact e
end K01
set_option Elab.async false
set_option linter.all false
set_option maxRecDepth 100000
set_option maxHeartbeats 1000000
namespace K01
open PySem PySem.Spec PyProof.Rows L2 Sim Pg
/-! ### drawn paths -/
theorem fit_small {α : Type} {xs : List α} (h : xs.length ≤ 1000) : fitL xs = true := decide_eq_true (by omega)
/-- a list of words that grows, in a store that is drawn from -/
structure Grow (k : Nat) (st : Sto) (x : PV) (p : List Str) (s : Sto) : Prop where
  is : ∃ s1 t i, Up k st s1 ∧ s = s1 ++ t ∧ x = .ref (st.length + i) ∧ t[i]? = some (.lst (p.map .str))
theorem Grow.dr {k : Nat} {st s : Sto} {x : PV} {p : List Str} (g : Grow k st x p s) (hk : k < st.length) : Dr k s := by
  obtain ⟨s1, t, i, u, rfl, rfl, e⟩ := g.is
  exact (u.dr hk).app
theorem Grow.up {k : Nat} {st s s' : Sto} {x : PV} {p : List Str} (g : Grow k st x p s) (hk : k < st.length) (u' : Up k s s') : Grow k st x p s' := by
  obtain ⟨s1, t, i, u, rfl, rfl, e⟩ := g.is
  obtain ⟨s2, u2, rfl⟩ := u'.split (by rw [u.len]; exact hk)
  exact ⟨s2, t, i, u.trans u2, rfl, rfl, e⟩
theorem Grow.app {k : Nat} {st s : Sto} {x : PV} {p : List Str} (g : Grow k st x p s) (hl : p.length ≤ 1000) (z : Str) : isLst x s = true ∧ ∃ s', sApp x (.str z) s = .ok .non s' ∧ Grow k st x (p ++ [z]) s' := by
  obtain ⟨s1, t, i, u, rfl, rfl, e⟩ := g.is
  have hl1 := u.len
  have hg : (s1 ++ t)[st.length + i]? = some (.lst (p.map .str)) := by
    rw [← hl1, List.getElem?_append_right (by omega)]
    simpa using e
  refine ⟨isl_ok hg, _, app_ok hg (by rw [List.length_map]; omega) _, s1, t.set i (.lst ((p ++ [z]).map .str)), i, u, ?_, rfl, ?_⟩
  · rw [← hl1, List.set_append_right _ _ (by omega)]
    simp
  · rw [List.getElem?_set_self (List.getElem?_eq_some_iff.mp e).1]
theorem range_ok (d : Int) (h0 : 0 ≤ d) (h1 : d < 1000000) : (decide (-(2 ^ 62) ≤ d) && decide (d < 2 ^ 62)) = true := by
  rw [Bool.and_eq_true, decide_eq_true_eq, decide_eq_true_eq]; omega
end K01
set_option Elab.async false
set_option linter.all false
set_option maxRecDepth 100000
set_option maxHeartbeats 1000000
namespace K01
open PySem PySem.Spec PyProof.Rows L2 Sim Pg
/-! ### equal data -/
theorem eqn_data {x y : PV} {d e : PyData} {st : Sto} (f : flatEq x y = none) (h1 : toDS st x = some d) (h2 : toDS st y = some e) (k1 : SeqAt.shaped d = true) (k2 : SeqAt.shaped e = true) (neg : Bool) : sEqn neg x y st = .ok (.bl (if neg then !PyData.eqv d e else PyData.eqv d e)) st := by
  unfold sEqn
  simp only [f, h1, h2, k1, k2, Bool.and_self, if_true]
/-! ### paths are recognized -/
structure Path (p : List Str) : Prop where
  ne : p ≠ []
  le : p.length ≤ 64
  wd : ∀ z ∈ p, Wd z
theorem nvs_strs {n : Nat} {p : List Str} (h : ∀ z ∈ p, Wd z) : nvs n (p.map .str) = true := nvs_iff.mpr fun x hx => by
  obtain ⟨z, hz, rfl⟩ := List.mem_map.mp hx
  exact (h z hz).nv n
theorem pls_strs (p : List Str) : pls (p.map .str) = true := pls_iff.mpr fun x hx => by
  obtain ⟨z, _, rfl⟩ := List.mem_map.mp hx
  rfl
theorem szs_strs {p : List Str} (h : ∀ z ∈ p, Wd z) : szs (p.map .str) ≤ p.length * 9 := by
  induction p with
  | nil => simp [szs]
  | cons a p ih =>
    have h1 := (h a (List.mem_cons_self ..)).len
    have h2 := ih fun z hz => h z (List.mem_cons_of_mem _ hz)
    simp only [List.map_cons, szs, sz, List.length_cons]
    omega
theorem Path.nv {p : List Str} (h : Path p) (n : Nat) : Sim.nv (n + 1) (ppath p) = true := nvs_strs h.wd
theorem Path.sz {p : List Str} (h : Path p) : Sim.sz (ppath p) ≤ 576 := by
  have := szs_strs h.wd
  have := h.le
  show szs (p.map .str) ≤ _
  omega
theorem Path.dt {p : List Str} (h : Path p) : Sim.dt (ppath p) = true := nv_dt (h.nv 0) (by have := h.sz; omega)
/-! ### entries, and what a path leads to -/
theorem eqS (a b : Str) (st : Sto) : sEqn false (.str a) (.str b) st = .ok (.bl (decide (a = b))) st := rfl
theorem Vl.low (n : Nat) (v : Vl) : Sim.low n v.pv = true := by cases v <;> rfl
theorem sTup1 (x : PV) (st : Sto) : sTup [x] st = .ok (.tup [x]) st := rfl
theorem sTup2 (x y : PV) (st : Sto) : sTup [x, y] st = .ok (.tup [x, y]) st := rfl
end K01
set_option Elab.async false
set_option linter.all false
set_option maxRecDepth 100000
set_option maxHeartbeats 1000000
namespace K61
open PySem PySem.Spec PyProof.Rows L2 Sim Pg K01
/-! ### texts as lists of code points -/
def intC (i : Int) : List Nat := if i < 0 then 45 :: TL.numL i.natAbs else TL.numL i.natAbs
def valC : Vl → List Nat
  | .int i => intC i
  | .ref n => 35 :: TL.numL n
def fieldC (p : Str × Vl) : List Nat := TL.tl p.1 ++ 61 :: valC p.2
def rowC (o : Ob) : List Nat := TL.joinL [32] (TL.tl o.kind :: o.fs.map fieldC)
theorem num_str (n : Nat) : (Str.ofString (toString ((n : Nat) : Int))) = SX.S (TL.numL n) := TL.ext_tl (TL.tl_num n)
theorem int_str (i : Int) : (Str.ofString (toString i)) = SX.S (intC i) := by
  unfold intC
  cases i with
  | ofNat n =>
    rw [if_neg (show ¬ Int.ofNat n < 0 from Int.not_lt.mpr (Int.natCast_nonneg n))]
    exact num_str n
  | negSucc n =>
    rw [if_pos (by omega)]
    refine TL.ext_tl ?_
    have e : toString (Int.negSucc n) = "-" ++ toString ((n + 1 : Nat) : Int) := rfl
    show TL.tl _ = 45 :: TL.numL (Int.negSucc n).natAbs
    rw [e, TL.tl_ofString, String.toList_append, List.map_append]
    have e2 := TL.tl_num (n + 1)
    rw [TL.tl_ofString] at e2
    rw [e2]
    rfl
theorem numL_9 {n : Nat} (h : n ≤ 999999999) : (TL.numL n).length ≤ 9 := TL.numL_len (by decide) (by omega)
theorem int_shown {i : Int} (h0 : -999999999 ≤ i) (h1 : i ≤ 999999999) (s : Sto) : sStr [.int i] s = .ok (.str (SX.S (intC i))) s := by
  have e : (PyData.int i).shown = SX.S (intC i) := by
    have : (PyData.int i).shown = Str.ofString (toString i) := by simp only [PyData.shown]
    rw [this, int_str]
  have l : (SX.S (intC i)).length ≤ 10 := by
    rw [SX.S_len]
    have := numL_9 (n := i.natAbs) (by omega)
    unfold intC
    split
    · rw [List.length_cons]; omega
    · omega
  have sh : (PyData.int i).showable = true := by
    have hb : i.natAbs.log2 < 64 := by
      have : i.natAbs < 2 ^ 64 := by omega
      by_cases hz : i.natAbs = 0
      · rw [hz]; decide
      · exact (Nat.log2_lt hz).mpr this
    simp only [PyData.showable]
    first
      | exact decide_eq_true (by omega)
      | simp; omega
  have dp : (PyData.int i).depth ≤ 50 := by simp only [PyData.depth]; omega
  have u : unref s (.int i) = .int i := rfl
  have t : toDD (.int i) = some (.int i) := rfl
  simp only [sStr, u, t, sh, e, Bool.true_and, decide_eq_true dp, decide_eq_true (show (SX.S (intC i)).length ≤ 16777216 by omega), Bool.and_self, if_true]
theorem int_text {i : Int} (h0 : -999999999 ≤ i) (h1 : i ≤ 999999999) : PySem.intText? (SX.S (intC i)) = some i := by
  have l := numL_9 (n := i.natAbs) (by omega)
  unfold intC
  by_cases hi : i < 0
  · rw [if_pos hi]
    have := intText_neg (x := SX.S (45 :: TL.numL i.natAbs)) (cs := TL.numL i.natAbs) rfl (TL.numL_digits _) (TL.numL_ne _) (by rw [SX.S_len, List.length_cons]; omega)
    rw [this, TL.numL_val]
    congr 1
    omega
  · rw [if_neg hi]
    have := intText_digits (x := SX.S (TL.numL i.natAbs)) (TL.numL_digits _) (TL.numL_ne _) (by rw [SX.S_len]; omega)
    rw [this]
    have : (NumText.digitsVal (SX.S (TL.numL i.natAbs)).cps.toList) = i.natAbs := TL.numL_val _
    rw [this]
    congr 1
    omega
theorem subAt_S (a b : List Nat) (i : Nat) : Builtin.Str.subAt (SX.S a) (SX.S b) i = ((a.drop i).take b.length == b) := by
  rw [StrLaws.subAt_eq, SX.S_len]
theorem rm_minus (l : List Nat) : Txt.removeprefix (SX.S (45 :: l)) (SX.S [45]) = SX.S l := by
  rw [StrLaws.removeprefix_eq, if_pos (by
    rw [Bool.and_eq_true, decide_eq_true_eq, SX.S_len, SX.S_len, subAt_S]
    exact ⟨by simp, by simp⟩)]
  refine TL.ext_tl ?_
  show ((45 :: l).drop (SX.S [45]).length).take _ = l
  rw [SX.S_len, SX.S_len]
  exact List.take_of_length_le (by simp)
theorem rm_none {c : Nat} {l : List Nat} (h : c ≠ 45) : Txt.removeprefix (SX.S (c :: l)) (SX.S [45]) = SX.S (c :: l) := by
  rw [StrLaws.removeprefix_eq, if_neg (by
    rw [Bool.and_eq_true, subAt_S]
    rintro ⟨_, e⟩
    simp at e
    exact h e)]
theorem starts_S (c d : Nat) (l : List Nat) : Txt.startswith (SX.S (c :: l)) (SX.S [d]) = decide (c = d) := by
  unfold Txt.startswith
  rw [subAt_S, SX.S_len, SX.S_len, Bool.eq_iff_iff]
  simp
/-! the constants -/
def Z (l : List Nat) : Str := SX.S l
theorem c_eq : ("=" : Str) = Z [61] := TL.ext_tl (by decide +kernel)
theorem c_eqr : ("=#" : Str) = Z [61, 35] := TL.ext_tl (by decide +kernel)
theorem c_ref : ("#" : Str) = Z [35] := TL.ext_tl (by decide +kernel)
theorem c_minus : ("-" : Str) = Z [45] := TL.ext_tl (by decide +kernel)
theorem c_sp : (" " : Str) = Z [32] := TL.ext_tl (by decide +kernel)
theorem c_nl : ("\n" : Str) = Z [10] := TL.ext_tl (by decide +kernel)
theorem c_open : TL.tl ("open" : Str) = [111, 112, 101, 110] := by decide +kernel
theorem c_frozen : TL.tl ("frozen" : Str) = [102, 114, 111, 122, 101, 110] := by decide +kernel
theorem S_app (a b : List Nat) : (Z a ++ Z b : Str) = Z (a ++ b) := SX.S_cat a b
theorem tl_S (z : Str) : Z (TL.tl z) = z := TL.mk_tl z
theorem tlS (l : List Nat) : TL.tl (Z l) = l := rfl
theorem Z_len (l : List Nat) : (Z l).length = l.length := SX.S_len l
/-! the signs of each -/
theorem wd_signs {z : Str} (h : Wd z) : (∀ c ∈ TL.tl z, 97 ≤ c ∧ c ≤ 122) ∧ 1 ≤ (TL.tl z).length ∧ (TL.tl z).length ≤ 8 := by
  unfold Wd wordP at h
  simp only [Bool.and_eq_true, decide_eq_true_eq, List.all_eq_true, low26] at h
  rw [TL.len_tl] at h
  exact ⟨h.2, by omega, by omega⟩
theorem num_signs (n : Nat) : ∀ c ∈ TL.numL n, 48 ≤ c ∧ c ≤ 57 := by
  intro c hc
  have := TL.numL_digits n
  unfold NumText.AllDigits at this
  simpa using this c hc
theorem int_signs (i : Int) : ∀ c ∈ intC i, c = 45 ∨ (48 ≤ c ∧ c ≤ 57) := by
  intro c hc
  unfold intC at hc
  split at hc
  · rcases List.mem_cons.mp hc with rfl | hc
    · exact .inl rfl
    · exact .inr (num_signs _ c hc)
  · exact .inr (num_signs _ c hc)
theorem int_len {i : Int} (h0 : -999999999 ≤ i) (h1 : i ≤ 999999999) : (intC i).length ≤ 10 := by
  have := numL_9 (n := i.natAbs) (by omega)
  unfold intC
  split
  · rw [List.length_cons]; omega
  · omega
theorem int_ne (i : Int) : intC i ≠ [] := by
  unfold intC
  split
  · exact List.cons_ne_nil _ _
  · exact TL.numL_ne _
/-- a value of a row: a small int or a small reference -/
def Vl.Sm : Vl → Prop
  | .int i => -999999999 ≤ i ∧ i ≤ 999999999
  | .ref n => n ≤ 1000
theorem val_signs (v : Vl) : ∀ c ∈ valC v, c = 35 ∨ c = 45 ∨ (48 ≤ c ∧ c ≤ 57) := by
  intro c hc
  cases v with
  | int i => exact .inr (int_signs i c hc)
  | ref n =>
    rcases List.mem_cons.mp hc with rfl | hc
    · exact .inl rfl
    · exact .inr (.inr (num_signs _ c hc))
theorem val_len {v : Vl} (h : Vl.Sm v) : (valC v).length ≤ 10 := by
  cases v with
  | int i => exact int_len h.1 h.2
  | ref n =>
    have h : n ≤ 1000 := h
    show (35 :: TL.numL n).length ≤ 10
    have := numL_9 (n := n) (by omega)
    rw [List.length_cons]; omega
theorem field_signs {p : Str × Vl} (h : Wd p.1) : ∀ c ∈ fieldC p, c = 35 ∨ c = 45 ∨ (48 ≤ c ∧ c ≤ 57) ∨ c = 61 ∨ (97 ≤ c ∧ c ≤ 122) := by
  intro c hc
  unfold fieldC at hc
  rcases List.mem_append.mp hc with hc | hc
  · have := (wd_signs h).1 c hc; omega
  · rcases List.mem_cons.mp hc with rfl | hc
    · omega
    · have := val_signs _ c hc; omega
theorem field_len {p : Str × Vl} (h : Wd p.1) (hv : Vl.Sm p.2) : (fieldC p).length ≤ 19 := by
  unfold fieldC
  rw [List.length_append, List.length_cons]
  have := (wd_signs h).2
  have := val_len hv
  omega
end K61
set_option Elab.async false
set_option linter.all false
set_option maxRecDepth 100000
set_option maxHeartbeats 1000000
namespace K61
open PySem PySem.Spec PyProof.Rows L2 Sim Pg K01
abbrev SV (l : List Nat) : PV := .str (Z l)
/-! ### sums, joins, splits -/
theorem sadd_S {a b : List Nat} (h : a.length + b.length ≤ 16777216) (s : Sto) : sAdd (SV a) (SV b) s = .ok (SV (a ++ b)) s := by
  show (if fitS (Z a) (Z b) = true then Res.ok (PV.str (Z a ++ Z b)) s else .bad) = _
  rw [if_pos (by unfold fitS; rw [Z_len, Z_len]; exact decide_eq_true h), S_app]
theorem sum_le {B : Nat} : ∀ {xs : List (List Nat)}, (∀ x ∈ xs, x.length ≤ B) → (xs.map (·.length)).sum ≤ xs.length * B
  | [], _ => Nat.zero_le _
  | x :: xs, h => by
    have := sum_le (xs := xs) fun y hy => h y (List.mem_cons_of_mem _ hy)
    have := h x (List.mem_cons_self ..)
    rw [List.map_cons, List.sum_cons, List.length_cons, Nat.succ_mul]
    omega
theorem join_len {B c : Nat} : ∀ {xs : List (List Nat)}, (∀ x ∈ xs, x.length ≤ B) → (TL.joinL [c] xs).length ≤ xs.length * (B + 1)
  | [], _ => Nat.zero_le _
  | [x], h => by
    have := h x (List.mem_cons_self ..)
    show x.length ≤ 1 * (B + 1)
    omega
  | x :: y :: xs, h => by
    have ih := join_len (c := c) (xs := y :: xs) fun z hz => h z (List.mem_cons_of_mem _ hz)
    have := h x (List.mem_cons_self ..)
    have e : TL.joinL [c] (x :: y :: xs) = x ++ ([c] ++ TL.joinL [c] (y :: xs)) := by
      first
        | rfl
        | simp only [TL.joinL, List.append_assoc]
    rw [e, List.length_append, List.length_append]
    have e2 : (x :: y :: xs).length * (B + 1) = (y :: xs).length * (B + 1) + (B + 1) := by rw [List.length_cons, Nat.succ_mul]
    rw [e2]
    have e1 : ([c] : List Nat).length = 1 := rfl
    omega
theorem join_S {c B : Nat} {xs : List (List Nat)} (h : ∀ x ∈ xs, x.length ≤ B) (hb : xs.length * (B + 1) ≤ 16777216) {y : PV} {s : Sto} (e : asL s y = some (xs.map SV)) : sJoin (SV [c]) y s = .ok (SV (TL.joinL [c] xs)) s := by
  have e2 : asStrs (xs.map SV) = some (xs.map Z) := by
    have := asStrs_map (xs.map Z)
    rw [List.map_map] at this
    exact this
  have l : ((xs.map Z).map (·.length)).sum ≤ xs.length * B := by
    have : (xs.map Z).map (·.length) = xs.map (·.length) := SX.lens xs
    rw [this]; exact sum_le h
  have n : (xs.map Z).length * (Z [c]).length = xs.length := by
    rw [Z_len, List.length_map]
    show xs.length * 1 = _
    omega
  have m : xs.length * (B + 1) = xs.length * B + xs.length := Nat.mul_succ _ _
  have f : decide (((xs.map Z).map (·.length)).sum + (xs.map Z).length * (Z [c]).length ≤ 16777216) = true := by
    rw [decide_eq_true_eq, n]; omega
  have j : Txt.join (Z [c]) (xs.map Z) = Z (TL.joinL [c] xs) := SX.join_S [c] xs
  simp only [sJoin, e, Option.bind_some, e2, f, if_true, j]
theorem split_S {c : Nat} (hc : c < 256) {xs : List (List Nat)} (hne : xs ≠ []) (hf : ∀ x ∈ xs, c ∉ x) (hl : (TL.joinL [c] xs).length ≤ 16777000) (s : Sto) : sSplit (SV (TL.joinL [c] xs)) (SV [c]) s = .ok (.lst (xs.map SV)) s := by
  have f : (decide (1 ≤ (Z [c]).length) && decide ((Z (TL.joinL [c] xs)).length + 2 ≤ 16777216)) = true := by
    rw [Bool.and_eq_true, decide_eq_true_eq, decide_eq_true_eq, Z_len, Z_len]
    exact ⟨Nat.le_refl _, by omega⟩
  have j : Txt.split (Z (TL.joinL [c] xs)) (Z [c]) = xs.map Z := by
    have := SX.split_S (a := TL.joinL [c] xs) (b := [c]) (List.cons_ne_nil _ _) (by simp [hc])
    rw [SX.spl_join hne hf] at this
    exact this
  simp only [sSplit, f, if_true, j, List.map_map]
  rfl
theorem slice_one (x : PV) (xs : List PV) (s : Sto) : sSlice (.lst (x :: xs)) (some 1) none s = .ok (.lst xs) s := by
  simp only [sSlice, asL, cut1, List.drop_one, List.tail_cons]
theorem ixl0 (x : PV) (xs : List PV) (s : Sto) : sIx (.lst (x :: xs)) (.int 0) s = .ok x s := by
  have : atI (x :: xs) (0 : Nat) = some x := by rw [atI_nat (by simp : 0 < (x :: xs).length)]; rfl
  have : atI (x :: xs) 0 = some x := this
  simp [sIx, asD, asL, ixN, this]
/-! ### fields as texts -/
theorem text_pair {k : Str} {v : Vl} (hv : Vl.Sm v) (hk : (TL.tl k).length ≤ 8) (st : Sto) : f_text_of_pair [.str k, v.pv] st = .ok (SV (fieldC (k, v))) st := by
  obtain ⟨l, rfl⟩ : ∃ l, k = Z l := ⟨TL.tl k, (tl_S k).symm⟩
  rw [tlS] at hk
  refine w_eq ?_
  unfold f_text_of_pair
  refine w_defM ?_
  unfold m_text_of_pair
  have a1 : ∀ s, sAdd (SV l) (SV [61]) s = .ok (SV (l ++ [61])) s := fun s => sadd_S (by show l.length + 1 ≤ _; omega) s
  have a2 : ∀ s, sAdd (SV l) (SV [61, 35]) s = .ok (SV (l ++ [61, 35])) s := fun s => sadd_S (by show l.length + 2 ≤ _; omega) s
  have g : ∀ (z : Str) s, gc s (.str z) s = .ok (.str z) s := fun z s => gc_same (x := .str z) rfl
  cases v with
  | int i =>
    have i1 : ∀ s, sStr [.int i] s = .ok (SV (intC i)) s := fun s => int_shown hv.1 hv.2 s
    have i2 : ∀ s, sAdd (SV (l ++ [61])) (SV (intC i)) s = .ok (SV (l ++ [61] ++ intC i)) s := fun s => sadd_S (by have := int_len hv.1 hv.2; rw [List.length_append]; show l.length + 1 + _ ≤ _; omega) s
    have f : sIsi [.int i, .raw (.ty "tuple")] st = .ok (.bl false) st := isi_tuple (x := .int i) rfl st
    simp_all_arith! [Vl.pv, c_eq, c_eqr, f, i1, i2, g, a1, a2]
    refine ⟨?_, trivial⟩
    unfold fieldC
    rw [tlS, List.append_assoc]; rfl
  | ref n =>
    have hn : n ≤ 1000 := hv
    have i1 : ∀ s, sStr [.int (n : Nat)] s = .ok (SV (intC n)) s := fun s => int_shown (by omega) (by omega) s
    have e : intC (n : Nat) = TL.numL n := by
      unfold intC
      rw [if_neg (by omega)]; rfl
    rw [e] at i1
    have i2 : ∀ s, sAdd (SV (l ++ [61, 35])) (SV (TL.numL n)) s = .ok (SV (l ++ [61, 35] ++ TL.numL n)) s := fun s => sadd_S (by have := numL_9 (n := n) (by omega); rw [List.length_append]; show l.length + 2 + _ ≤ _; omega) s
    have f : sIsi [.tup [.int (n : Nat)], .raw (.ty "tuple")] st = .ok (.bl true) st := isi_tuple (x := .tup [.int (n : Nat)]) rfl st
    have x0 : ∀ s, sIx (.tup [.int (n : Nat)]) (.int 0) s = .ok (.int (n : Nat)) s := fun s => ix0s _ _ s
    simp_all_arith! [Vl.pv, c_eq, c_eqr, f, i1, i2, g, x0, a1, a2]
    refine ⟨?_, trivial⟩
    unfold fieldC
    rw [tlS, List.append_assoc]; rfl
structure FS (p : Str × Vl) : Prop where
  wd : Wd p.1
  sm : Vl.Sm p.2
theorem text_pairs {fs : List (Str × Vl)} (h : ∀ p ∈ fs, FS p) (hl : fs.length ≤ 1000) (st : Sto) : f_text_of_pairs [.tup (fs.map fpv)] st = .ok (.lst (fs.map fun p => SV (fieldC p))) st := by
  refine w_eq ?_
  unfold f_text_of_pairs
  refine w_defM ?_
  unfold m_text_of_pairs
  have fl : fitL (fs.map fpv) = true := by unfold fitL; rw [List.length_map]; exact decide_eq_true (by omega)
  have it : ∀ (xs : List PV) s, sIter (.tup xs) s = .ok xs s := fun _ _ => rfl
  have lc : lcGo (.many [1, 2]) bYes (mApp (fnN 2 f_text_of_pair) (mCons (mVar 1) (mCons (mVar 2) mNil))) (wipeL [some (.tup (fs.map fpv)), none, none] [1, 2]) (fs.map fpv) st = .ok (fs.map fun p => SV (fieldC p)) st :=
    lcGo_rel fpv (fun p => SV (fieldC p)) fs fun p hp => by
      refine ⟨[some (.tup (fs.map fpv)), some (.str p.1), some p.2.pv], rfl, ?_⟩
      have := text_pair (h p hp).sm (wd_signs (h p hp).wd).2.2 st
      simp_arith! [this, Res.only]
  have g : gc st (.lst (fs.map fun p => SV (fieldC p))) st = .ok (.lst (fs.map fun p => SV (fieldC p))) st := gc_same (by
    unfold low
    suffices ∀ l : List (Str × Vl), lows st.length (l.map fun p => SV (fieldC p)) = true from this fs
    intro l
    induction l with
    | nil => unfold lows; rfl
    | cons p l ih => rw [List.map_cons]; unfold lows; rw [ih]; unfold low; rfl)
  show wO _ _ _ _ _
  unfold mLc
  simp_all_arith! [it, fl, lc, g]
  first | exact ⟨trivial, trivial⟩ | exact trivial | skip
end K61
set_option Elab.async false
set_option linter.all false
set_option maxRecDepth 100000
set_option maxHeartbeats 1000000
namespace K61
open PySem PySem.Spec PyProof.Rows L2 Sim Pg K01
/-! ### webs as texts -/
structure OS (o : Ob) : Prop where
  kd : o.kind = "open" ∨ o.kind = "frozen"
  f4 : o.fs.length ≤ 4
  fs : ∀ p ∈ o.fs, FS p
def nf (p : Str × Nat) : Str × Vl := (p.1, .int (p.2 : Nat))
structure NS (ns : List (Str × Nat)) : Prop where
  n1 : 1 ≤ ns.length
  n6 : ns.length ≤ 6
  fs : ∀ p ∈ ns, Wd p.1 ∧ p.2 ≤ 1000
theorem NS.nf {ns : List (Str × Nat)} (h : NS ns) : ∀ p ∈ ns.map nf, FS p := by
  intro p hp
  obtain ⟨q, hq, rfl⟩ := List.mem_map.mp hp
  have := h.fs q hq
  exact ⟨this.1, by show _ ∧ _; omega⟩
theorem npv_nf (ns : List (Str × Nat)) : ns.map npv = (ns.map nf).map fpv := by
  rw [List.map_map]; rfl
theorem kd_len {o : Ob} (h : OS o) : (TL.tl o.kind).length ≤ 6 := by
  rcases h.kd with e | e <;> rw [e]
  · rw [c_open]; decide
  · rw [c_frozen]; decide
theorem row_parts_len {o : Ob} (h : OS o) : ∀ x ∈ TL.tl o.kind :: o.fs.map fieldC, x.length ≤ 19 := by
  intro x hx
  rcases List.mem_cons.mp hx with rfl | hx
  · have := kd_len h; omega
  · obtain ⟨p, hp, rfl⟩ := List.mem_map.mp hx
    exact field_len (h.fs p hp).wd (h.fs p hp).sm
theorem row_len {o : Ob} (h : OS o) : (rowC o).length ≤ 100 := by
  have := join_len (c := 32) (row_parts_len h)
  have l : (TL.tl o.kind :: o.fs.map fieldC).length ≤ 5 := by rw [List.length_cons, List.length_map]; have := h.f4; omega
  unfold rowC
  have : (TL.tl o.kind :: o.fs.map fieldC).length * (19 + 1) ≤ 5 * 20 := Nat.mul_le_mul_right _ l
  omega
def first2 (ns : List (Str × Nat)) : List Nat := TL.joinL [32] ((ns.map nf).map fieldC)
def text2 (ns : List (Str × Nat)) (os : List Ob) : List Nat := TL.joinL [10] (first2 ns :: os.map rowC)
theorem first_len {ns : List (Str × Nat)} (h : NS ns) : (first2 ns).length ≤ 120 := by
  have := join_len (c := 32) (B := 19) (xs := (ns.map nf).map fieldC) fun x hx => by
    obtain ⟨p, hp, rfl⟩ := List.mem_map.mp hx
    exact field_len (h.nf p hp).wd (h.nf p hp).sm
  rw [List.length_map, List.length_map] at this
  have : ns.length * (19 + 1) ≤ 6 * 20 := Nat.mul_le_mul_right _ h.n6
  unfold first2
  omega
theorem lines_len {ns : List (Str × Nat)} {os : List Ob} (hn : NS ns) (ho : ∀ o ∈ os, OS o) : ∀ x ∈ first2 ns :: os.map rowC, x.length ≤ 120 := by
  intro x hx
  rcases List.mem_cons.mp hx with rfl | hx
  · exact first_len hn
  · obtain ⟨o, h, rfl⟩ := List.mem_map.mp hx
    have := row_len (ho o h); omega
theorem lows_map {α : Type} {n : Nat} {f : α → PV} (h : ∀ a, low n (f a) = true) : ∀ l : List α, lows n (l.map f) = true
  | [] => by unfold lows; rfl
  | a :: l => by rw [List.map_cons]; unfold lows; rw [h a, lows_map h l]; rfl
theorem text_row {o : Ob} (h : OS o) (s : Sto) : sJoin (SV [32]) (.lst (.str o.kind :: o.fs.map fun p => SV (fieldC p))) s = .ok (SV (rowC o)) s := by
  refine join_S (B := 19) (row_parts_len h) ?_ ?_
  · rw [List.length_cons, List.length_map]; have := h.f4; omega
  · show some _ = some _
    rw [List.map_cons, List.map_map, show SV (TL.tl o.kind) = .str o.kind from congrArg PV.str (tl_S o.kind)]
    rfl
theorem text_ok {ns : List (Str × Nat)} {os : List Ob} (hn : NS ns) (ho : ∀ o ∈ os, OS o) (hl : os.length ≤ 1000) (st : Sto) : f_text_of [(⟨os, ns⟩ : Web).pv] st = .ok (SV (text2 ns os)) st := by
  refine w_eq ?_
  unfold f_text_of
  refine w_defM ?_
  unfold m_text_of
  have t1 : ∀ s, f_text_of_pairs [.tup (ns.map npv)] s = .ok (.lst ((ns.map nf).map fun p => SV (fieldC p))) s := fun s => by
    rw [npv_nf]
    exact text_pairs hn.nf (by rw [List.length_map]; have := hn.n6; omega) s
  have j1 : ∀ s, sJoin (SV [32]) (.lst ((ns.map nf).map fun p => SV (fieldC p))) s = .ok (SV (first2 ns)) s := fun s => by
    have := join_S (c := 32) (B := 19) (xs := (ns.map nf).map fieldC) (y := .lst ((ns.map nf).map fun p => SV (fieldC p))) (s := s) (fun x hx => by
      obtain ⟨p, hp, rfl⟩ := List.mem_map.mp hx
      exact field_len (hn.nf p hp).wd (hn.nf p hp).sm) (by rw [List.length_map, List.length_map]; have := hn.n6; omega) (by
      show some _ = some _
      simp only [List.map_map]; rfl)
    exact this
  have fl : fitL (os.map Ob.pv) = true := by unfold fitL; rw [List.length_map]; exact decide_eq_true (by omega)
  have it : ∀ (xs : List PV) s, sIter (.tup xs) s = .ok xs s := fun _ _ => rfl
  have f1 : fitL [SV (first2 ns)] = true := rfl
  have lc : ∀ (env0 : Lo), env0.length = 6 → ∀ s, lcGo (.many [4, 5]) bYes (mJoin (mC (SV [32])) (mBin sAdd (mApp sLstF (mCons (mVar 4) mNil)) (mApp (fnN 1 f_text_of_pairs) (mCons (mVar 5) mNil)))) env0 (os.map Ob.pv) s = .ok (os.map fun o => SV (rowC o)) s := fun env0 h6 s =>
    lcGo_rel Ob.pv (fun o => SV (rowC o)) os fun o h => by
      have O := ho o h
      match env0, h6 with
      | [v0, v1, v2, v3, v4, v5], _ =>
        refine ⟨[v0, v1, v2, v3, some (.str o.kind), some (.tup (o.fs.map fpv))], rfl, ?_⟩
        have a := text_pairs O.fs (by have := O.f4; omega) s
        have b := text_row O s
        have c : ∀ x, sLstF [x] s = .ok (.lst [x]) s := fun _ => rfl
        have d : ∀ (x : PV) (ys : List PV), ys.length ≤ 1000 → sAdd (.lst [x]) (.lst ys) s = .ok (.lst (x :: ys)) s := fun x ys h => by
          have : fitL ([x] ++ ys) = true := by unfold fitL; rw [List.length_append]; exact decide_eq_true (by show 1 + _ ≤ _; omega)
          simp only [sAdd, asM, this, if_true]
          rfl
        have d := d (.str o.kind) (o.fs.map fun p => SV (fieldC p)) (by rw [List.length_map]; have := O.f4; omega)
        simp_arith! [mJoin, a, b, c, d, Res.only]
  show wO _ _ _ _ _
  have r : (Tgt.many [2, 3]).run ((⟨os, ns⟩ : Web).pv) [some ((⟨os, ns⟩ : Web).pv), none, none, none, none, none] = some [some ((⟨os, ns⟩ : Web).pv), none, some (.tup (os.map Ob.pv)), some (.tup (ns.map npv)), none, none] := rfl
  rw [wO_seq, wO_setMany]
  simp_all_arith! [t1]
  refine ⟨_, r, ?_⟩
  have m1 : ∀ s, sLstM [SV (first2 ns)] s = .ok (.ref s.length) (s ++ [.lst [SV (first2 ns)]]) := fun s => rfl
  simp_all_arith! [mJoin, c_sp, t1, j1, m1, mExtend]
  have il : isLst (.ref st.length) (st ++ [MO.lst [SV (first2 ns)]]) = true := by
    unfold isLst; simp
  unfold mLc
  have ex : sExt (.ref st.length) (.lst (os.map fun o => SV (rowC o))) (st ++ [MO.lst [SV (first2 ns)]]) = .ok .non (st ++ [MO.lst (SV (first2 ns) :: os.map fun o => SV (rowC o))]) := by
    have : decide ([SV (first2 ns)].length + (os.map fun o => SV (rowC o)).length ≤ 16777216) = true := by
      rw [List.length_map]; exact decide_eq_true (by show 1 + _ ≤ _; omega)
    have e : (st ++ [MO.lst [SV (first2 ns)]])[st.length]? = some (MO.lst [SV (first2 ns)]) := by simp
    simp only [sExt, e, this, if_true]
    congr 1
    simp
  have lc1 := lc (wipeL [some ((⟨os, ns⟩ : Web).pv), some (.ref st.length), some (.tup (os.map Ob.pv)), some (.tup (ns.map npv)), none, none] [4, 5]) rfl
  simp_all_arith! [il, it, fl, lc1, ex, c_nl]
  have j2 : ∀ s, asL s (.ref st.length) = some ((first2 ns :: os.map rowC).map SV) → sJoin (SV [10]) (.ref st.length) s = .ok (SV (text2 ns os)) s := fun s e => by
    refine join_S (B := 120) (lines_len hn ho) ?_ e
    rw [List.length_cons, List.length_map]; omega
  rw [j2 _ (by
    simp [asL])]
  have g : gc st (SV (text2 ns os)) (st ++ [MO.lst (SV (first2 ns) :: os.map fun o => SV (rowC o))]) = .ok (SV (text2 ns os)) st := gc_keep rfl
  simp_all_arith! [g]
  try exact ⟨trivial, trivial⟩
end K61
set_option Elab.async false
set_option linter.all false
set_option maxRecDepth 100000
set_option maxHeartbeats 1000000
namespace K61
open PySem PySem.Spec PyProof.Rows L2 Sim Pg K01
/-! ### reading fields, rows -/
theorem dig_all {l : List Nat} (h : ∀ c ∈ l, 48 ≤ c ∧ c ≤ 57) : (Sim.signs (Z l)).all (fun x => decide (48 ≤ sgn x) && decide (sgn x ≤ 57)) = true := by
  rw [all_signs (Z l) fun c => decide (48 ≤ c) && decide (c ≤ 57)]
  show l.all _ = true
  rw [List.all_eq_true]
  intro c hc
  have := h c hc
  simp [this.1, this.2]
theorem c_0 : ("0" : Str).cps.toList = [48] := by decide +kernel
theorem c_9 : ("9" : Str).cps.toList = [57] := by decide +kernel
theorem lc_digs {l : List Nat} (hl : l.length ≤ 20) (env : Lo) (h3 : ∃ v0 v2, env = [v0, some (SV l), v2]) (st : Sto) : mLc (mIter (mVar 1)) (.one 2) bYes (mChain sLe sLe (mC (.str "0")) (mVar 2) (mC (.str "9"))) [2] env st = .ok (.lst ((Sim.signs (Z l)).map fun x => .bl (decide (48 ≤ sgn x) && decide (sgn x ≤ 57)))) st := by
  obtain ⟨v0, v2, rfl⟩ := h3
  refine lc_all (g := fun x => decide (48 ≤ sgn x) && decide (sgn x ≤ 57)) rfl (fit_signs (by rw [Z_len]; omega)) fun x hx => ?_
  obtain ⟨c, rfl⟩ := mem_signs hx
  simp only [wipeL]
  simp_arith! [c_0, c_9, lex1]
  show _ = Res.ok (PV.bl (decide (48 ≤ c) && decide (c ≤ 57))) st
  congr 2
  rw [Bool.eq_iff_iff]
  simp only [Bool.and_eq_true, Bool.not_eq_true', decide_eq_false_iff_not, decide_eq_true_eq]
  omega
theorem int_in_ok {i : Int} (h0 : -999999999 ≤ i) (h1 : i ≤ 999999999) (st : Sto) : f_int_in [SV (intC i)] st = .ok (.int i) st := by
  refine w_eq ?_
  unfold f_int_in
  refine w_defM ?_
  unfold m_int_in
  have l9 := numL_9 (n := i.natAbs) (by omega)
  have ne := TL.numL_ne i.natAbs
  have l1 : 1 ≤ (TL.numL i.natAbs).length := List.length_pos_iff.mpr ne
  have r1 : ∀ s, sRmPre (SV (intC i)) (SV [45]) s = .ok (SV (TL.numL i.natAbs)) s := fun s => by
    have f : decide ((Z (intC i)).length ≤ 16777216) = true := by
      rw [Z_len]; exact decide_eq_true (by have := int_len h0 h1; omega)
    have e : Txt.removeprefix (Z (intC i)) (Z [45]) = Z (TL.numL i.natAbs) := by
      unfold intC
      split
      · exact rm_minus _
      · obtain ⟨c, l, e⟩ := List.exists_cons_of_ne_nil ne
        have hc := num_signs i.natAbs c (by rw [e]; exact List.mem_cons_self ..)
        rw [e]
        exact rm_none (by omega)
    simp only [sRmPre, f, if_true, e]
  have ls : ∀ s, sLen [SV (TL.numL i.natAbs)] s = .ok (.int ((TL.numL i.natAbs).length : Nat)) s := fun s => by
    have := lenS (z := Z (TL.numL i.natAbs)) (by rw [Z_len]; omega) s
    rw [Z_len] at this
    exact this
  have m9 : ∀ s, sStr [.int 999999999] s = .ok (SV (intC 999999999)) s := fun s => int_shown (by decide) (by decide) s
  have lm : ∀ s, sLen [SV (intC 999999999)] s = .ok (.int 9) s := fun s => by
    have := lenS (z := Z (intC 999999999)) (by rw [Z_len]; have := int_len (i := 999999999) (by decide) (by decide); omega) s
    rw [this, Z_len]
    have : (intC 999999999).length = 9 := by decide +kernel
    rw [this]; rfl
  have d1 : decide ((1 : Int) ≤ ((TL.numL i.natAbs).length : Nat)) = true := decide_eq_true (by omega)
  have d2 : decide (((TL.numL i.natAbs).length : Int) ≤ 9) = true := decide_eq_true (by omega)
  have lc := fun env h => lc_digs (l := TL.numL i.natAbs) (by omega) env h st
  have al : ∀ s, sAll [.lst ((Sim.signs (Z (TL.numL i.natAbs))).map fun x => .bl (decide (48 ≤ sgn x) && decide (sgn x ≤ 57)))] s = .ok (.bl true) s := fun s => by
    rw [sall_map (g := fun x => decide (48 ≤ sgn x) && decide (sgn x ≤ 57)), dig_all (num_signs _)]
  have it : ∀ s, sIntS [SV (intC i)] s = .ok (.int i) s := fun s => by
    have e : PySem.intText? (Z (intC i)) = some i := int_text h0 h1
    have f : decide ((Z (intC i)).length ≤ 640) = true := by
      rw [Z_len]; exact decide_eq_true (by have := int_len h0 h1; omega)
    simp only [sIntS, e, f, if_true]
  simp_all_arith! [mM1, c_minus, r1, ls, m9, lm, d1, d2, v_MOST_INT]
  rw [lc _ ⟨_, _, rfl⟩]
  have g : ∀ s, gc s (.int i) s = .ok (.int i) s := fun s => gc_int s i
  simp_all_arith! [al, it, g]
  try exact ⟨trivial, trivial⟩
theorem cutZ (p q : List Nat) {i : Int} (h : i = (p.length : Int)) : cutS (Z (p ++ q)) (some i) none = Z q := by
  rw [C8.cutS_slice]
  exact SX.from_app p q h
theorem pair_in_ok {p : Str × Vl} (h : FS p) (st : Sto) : f_pair_in [SV (fieldC p)] st = .ok (fpv p) st := by
  refine w_eq ?_
  unfold f_pair_in
  refine w_defM ?_
  unfold m_pair_in
  have ne : 61 ∉ TL.tl p.1 := fun hm => by have := (wd_signs h.wd).1 61 hm; omega
  have fl := field_len h.wd h.sm
  have pt : ∀ s, sPart (SV (fieldC p)) (SV [61]) s = .ok (.wtp [.str p.1, SV [61], SV (valC p.2)]) s := fun s => by
    have f : (decide (1 ≤ (Z [61]).length) && decide ((Z (fieldC p)).length ≤ 16777216)) = true := by
      rw [Z_len, Z_len, Bool.and_eq_true, decide_eq_true_eq, decide_eq_true_eq]
      exact ⟨Nat.le_refl _, by omega⟩
    have e : Txt.partition (Z (fieldC p)) (Z [61]) = (Z (TL.tl p.1), Z [61], Z (valC p.2)) :=
      SX.partition_some (List.cons_ne_nil _ _) (SX.par_head (c := 61) (sep := []) (valC p.2) ne)
    simp only [sPart, f, if_true, e, tl_S]
  have vl := val_len h.sm
  have vl2 : (valC p.2).length ≤ 10 := vl
  have gg : ∀ x : PV, low st.length x = true → gc st x st = .ok x st := fun x hx => gc_same hx
  show wO _ _ _ _ _
  rw [wO_seq, wO_setMany]
  simp_all_arith! [mM1, c_eq, pt]
  refine ⟨_, rfl, ?_⟩
  obtain ⟨k, v⟩ := p
  cases v with
  | int i =>
    have hi : -999999999 ≤ i ∧ i ≤ 999999999 := h.sm
    have st1 : ∀ s, sStarts (SV (valC (.int i))) (SV [35]) s = .ok (.bl false) s := fun s => by
      obtain ⟨c, l, e⟩ := List.exists_cons_of_ne_nil (int_ne i)
      have hc := int_signs i c (by rw [e]; exact List.mem_cons_self ..)
      have : Txt.startswith (Z (valC (.int i))) (Z [35]) = false := by
        show Txt.startswith (Z (intC i)) (Z [35]) = false
        rw [e]
        exact (starts_S c 35 l).trans (decide_eq_false (by omega))
      simp only [sStarts, this]
    have ii : ∀ s, f_int_in [SV (valC (.int i))] s = .ok (.int i) s := fun s => int_in_ok hi.1 hi.2 s
    have g := gg (fpv (k, .int i)) rfl
    have tp : ∀ s, sTup [.str k, .int i] s = .ok (fpv (k, .int i)) s := fun s => rfl
    simp_all_arith! [setMany, mM1, c_ref, st1, ii, tp, g]
    try exact ⟨trivial, trivial⟩
  | ref n =>
    have hn : n ≤ 1000 := h.sm
    have e : intC (n : Nat) = TL.numL n := by
      unfold intC
      rw [if_neg (by omega)]; rfl
    have st1 : ∀ s, sStarts (SV (valC (.ref n))) (SV [35]) s = .ok (.bl true) s := fun s => by
      have : Txt.startswith (Z (valC (.ref n))) (Z [35]) = true := (starts_S 35 35 _).trans rfl
      simp only [sStarts, this]
    have sl : ∀ s, sSlcS (SV (valC (.ref n))) (some 1) none s = .ok (SV (TL.numL n)) s := fun s => by
      have vl : (valC (.ref n)).length ≤ 10 := vl
      have f : decide ((Z (valC (.ref n))).length ≤ 16777216) = true := by rw [Z_len]; exact decide_eq_true (by omega)
      have e : cutS (Z (valC (.ref n))) (some 1) none = Z (TL.numL n) := cutZ [35] (TL.numL n) rfl
      simp only [sSlcS, f, if_true, e]
    have ii : ∀ s, f_int_in [SV (TL.numL n)] s = .ok (.int (n : Nat)) s := fun s => by
      rw [← e]; exact int_in_ok (by omega) (by omega) s
    have g := gg (fpv (k, .ref n)) rfl
    have tp1 : ∀ s, sTup [.int (n : Nat)] s = .ok (.tup [.int (n : Nat)]) s := fun s => rfl
    have tp : ∀ s, sTup [.str k, .tup [.int (n : Nat)]] s = .ok (fpv (k, .ref n)) s := fun s => rfl
    simp_all_arith! [setMany, mM1, mSliceS, oSome, oNone, c_ref, st1, sl, ii, tp1, tp, g]
    try exact ⟨trivial, trivial⟩
end K61
set_option Elab.async false
set_option linter.all false
set_option maxRecDepth 100000
set_option maxHeartbeats 1000000
namespace K61
open PySem PySem.Spec PyProof.Rows L2 Sim Pg K01
/-! ### reading a text -/
theorem low_fpv {n : Nat} (p : Str × Vl) : low n (fpv p) = true := by
  obtain ⟨k, v⟩ := p
  cases v <;> rfl
theorem low_ob {n : Nat} (o : Ob) : low n o.pv = true := by
  show lows n [.str o.kind, .tup (o.fs.map fpv)] = true
  have : low n (.tup (o.fs.map fpv)) = true := by unfold low; exact lows_map low_fpv _
  unfold lows
  rw [show low n (.str o.kind) = true by unfold low; rfl]
  unfold lows
  rw [this]
  unfold lows
  rfl
theorem low_web {n : Nat} (w : Web) : low n w.pv = true := by
  have a : low n (.tup (w.os.map Ob.pv)) = true := by unfold low; exact lows_map low_ob _
  have b : low n (.tup (w.ns.map npv)) = true := by unfold low; exact lows_map (fun p => rfl) _
  show lows n [.tup (w.os.map Ob.pv), .tup (w.ns.map npv)] = true
  unfold lows
  rw [a]
  unfold lows
  rw [b]
  unfold lows
  rfl
theorem pairs_in_ok {ps : List (Str × Vl)} (h : ∀ p ∈ ps, FS p) (hl : ps.length ≤ 1000) (st : Sto) : f_pairs_in [.lst ((ps.map fieldC).map SV)] st = .ok (.tup (ps.map fpv)) st := by
  refine w_eq ?_
  unfold f_pairs_in
  refine w_defM ?_
  unfold m_pairs_in
  have fl : fitL ((ps.map fieldC).map SV) = true := by unfold fitL; rw [List.length_map, List.length_map]; exact decide_eq_true (by omega)
  have it : ∀ (xs : List PV) s, sIter (.lst xs) s = .ok xs s := fun _ _ => rfl
  have lc : lcGo (.one 1) bYes (mApp (fnN 1 f_pair_in) (mCons (mVar 1) mNil)) (wipeL [some (.lst ((ps.map fieldC).map SV)), none] [1]) ((ps.map fieldC).map SV) st = .ok (ps.map fpv) st := by
    rw [List.map_map]
    refine lcGo_rel (fun p => SV (fieldC p)) fpv ps fun p hp => ⟨_, rfl, ?_⟩
    have := pair_in_ok (h p hp) st
    simp only [wipeL]
    simp_arith! [this, Res.only]
  have tu : ∀ s, sTuple [.lst (ps.map fpv)] s = .ok (.tup (ps.map fpv)) s := fun s => by
    simp only [sTuple, asL]
  have g : gc st (.tup (ps.map fpv)) st = .ok (.tup (ps.map fpv)) st := gc_same (by unfold low; exact lows_map low_fpv _)
  unfold mLc
  simp_all_arith! [it, fl, lc, tu, g]
  try exact ⟨trivial, trivial⟩
theorem row_free {o : Ob} (h : OS o) : (∀ x ∈ TL.tl o.kind :: o.fs.map fieldC, 32 ∉ x ∧ 10 ∉ x ∧ (x = TL.tl o.kind → 35 ∉ x)) := by
  intro x hx
  have kd : ∀ c ∈ TL.tl o.kind, 97 ≤ c := by
    rcases h.kd with e | e <;> rw [e]
    · rw [c_open]; decide
    · rw [c_frozen]; decide
  rcases List.mem_cons.mp hx with rfl | hx
  · exact ⟨fun hc => by have := kd _ hc; omega, fun hc => by have := kd _ hc; omega, fun _ hc => by have := kd _ hc; omega⟩
  · obtain ⟨p, hp, rfl⟩ := List.mem_map.mp hx
    have := field_signs (h.fs p hp).wd
    exact ⟨fun hc => by have := this _ hc; omega, fun hc => by have := this _ hc; omega, fun e hc => by
      have := kd 35 (e ▸ hc); omega⟩
theorem object_in_ok {o : Ob} (h : OS o) (st : Sto) : f_object_in [SV (rowC o)] st = .ok o.pv st := by
  refine w_eq ?_
  unfold f_object_in
  refine w_defM ?_
  unfold m_object_in
  have sp : ∀ s, sSplit (SV (rowC o)) (SV [32]) s = .ok (.lst (.str o.kind :: (o.fs.map fieldC).map SV)) s := fun s => by
    have := split_S (c := 32) (by decide) (xs := TL.tl o.kind :: o.fs.map fieldC) (List.cons_ne_nil _ _) (fun x hx => (row_free h x hx).1) (by have := row_len h; unfold rowC at this; omega) s
    rw [List.map_cons, show SV (TL.tl o.kind) = .str o.kind from congrArg PV.str (tl_S o.kind)] at this
    exact this
  have ix : ∀ s, sIx (.lst (.str o.kind :: (o.fs.map fieldC).map SV)) (.int 0) s = .ok (.str o.kind) s := fun s => ixl0 _ _ s
  have sl : ∀ s, sSlice (.lst (.str o.kind :: (o.fs.map fieldC).map SV)) (some 1) none s = .ok (.lst ((o.fs.map fieldC).map SV)) s := fun s => slice_one _ _ s
  have pi : ∀ s, f_pairs_in [.lst ((o.fs.map fieldC).map SV)] s = .ok (.tup (o.fs.map fpv)) s := fun s => pairs_in_ok h.fs (by have := h.f4; omega) s
  have tp : ∀ s, sTup [.str o.kind, .tup (o.fs.map fpv)] s = .ok o.pv s := fun s => rfl
  have g : gc st o.pv st = .ok o.pv st := gc_same (low_ob o)
  simp_all_arith! [mM1, c_sp, sp, ix, mSlice, oSome, oNone, sl, pi, tp, g]
  try exact ⟨trivial, trivial⟩
theorem first_split {ns : List (Str × Nat)} (h : NS ns) (s : Sto) : sSplit (SV (first2 ns)) (SV [32]) s = .ok (.lst (((ns.map nf).map fieldC).map SV)) s := by
  refine split_S (c := 32) (by decide) ?_ ?_ ?_ s
  · intro e
    have := congrArg List.length e
    rw [List.length_map, List.length_map] at this
    have h1 := h.n1
    have : ns.length = 0 := this
    omega
  · intro x hx hc
    obtain ⟨p, hp, rfl⟩ := List.mem_map.mp hx
    have := field_signs (h.nf p hp).wd _ hc
    omega
  · have := first_len h
    unfold first2 at this
    omega
theorem first_free {ns : List (Str × Nat)} (h : NS ns) : 10 ∉ first2 ns := by
  have : ∀ (xs : List (List Nat)), (∀ x ∈ xs, 10 ∉ x) → 10 ∉ TL.joinL [32] xs := by
    intro xs
    induction xs with
    | nil => intro _ hc; cases hc
    | cons x xs ih =>
      intro hx
      cases xs with
      | nil => exact hx x (List.mem_cons_self ..)
      | cons y ys =>
        have e : TL.joinL [32] (x :: y :: ys) = x ++ ([32] ++ TL.joinL [32] (y :: ys)) := by
          first
            | rfl
            | simp only [TL.joinL, List.append_assoc]
        rw [e]
        intro hc
        rcases List.mem_append.mp hc with hc | hc
        · exact hx x (List.mem_cons_self ..) hc
        · rcases List.mem_append.mp hc with hc | hc
          · simp at hc
          · exact ih (fun z hz => hx z (List.mem_cons_of_mem _ hz)) hc
  refine this _ fun x hx hc => ?_
  obtain ⟨p, hp, rfl⟩ := List.mem_map.mp hx
  have := field_signs (h.nf p hp).wd _ hc
  omega
theorem row_nl {o : Ob} (h : OS o) : 10 ∉ rowC o := by
  have : ∀ (xs : List (List Nat)), (∀ x ∈ xs, 10 ∉ x) → 10 ∉ TL.joinL [32] xs := by
    intro xs
    induction xs with
    | nil => intro _ hc; cases hc
    | cons x xs ih =>
      intro hx
      cases xs with
      | nil => exact hx x (List.mem_cons_self ..)
      | cons y ys =>
        have e : TL.joinL [32] (x :: y :: ys) = x ++ ([32] ++ TL.joinL [32] (y :: ys)) := by
          first
            | rfl
            | simp only [TL.joinL, List.append_assoc]
        rw [e]
        intro hc
        rcases List.mem_append.mp hc with hc | hc
        · exact hx x (List.mem_cons_self ..) hc
        · rcases List.mem_append.mp hc with hc | hc
          · simp at hc
          · exact ih (fun z hz => hx z (List.mem_cons_of_mem _ hz)) hc
  exact this _ fun x hx => (row_free h x hx).2.1
theorem text_split {ns : List (Str × Nat)} {os : List Ob} (hn : NS ns) (ho : ∀ o ∈ os, OS o) (hl : os.length ≤ 1000) (s : Sto) : sSplit (SV (text2 ns os)) (SV [10]) s = .ok (.lst (SV (first2 ns) :: (os.map rowC).map SV)) s := by
  refine split_S (c := 10) (by decide) (List.cons_ne_nil _ _) ?_ ?_ s
  · intro x hx
    rcases List.mem_cons.mp hx with rfl | hx
    · exact first_free hn
    · obtain ⟨o, h, rfl⟩ := List.mem_map.mp hx
      exact row_nl (ho o h)
  · have := join_len (c := 10) (lines_len hn ho)
    have e : (first2 ns :: os.map rowC).length = os.length + 1 := by rw [List.length_cons, List.length_map]
    rw [e] at this
    have : (os.length + 1) * (120 + 1) ≤ 1001 * 121 := Nat.mul_le_mul_right _ (by omega)
    omega
theorem join_cons_len (c : Nat) (x : List Nat) (xs : List (List Nat)) : (TL.joinL [c] (x :: xs)).length ≤ x.length + 1 + (TL.joinL [c] xs).length := by
  cases xs with
  | nil => show x.length ≤ _; omega
  | cons y ys =>
    have e : TL.joinL [c] (x :: y :: ys) = x ++ ([c] ++ TL.joinL [c] (y :: ys)) := by
      first
        | rfl
        | simp only [TL.joinL, List.append_assoc]
    rw [e, List.length_append, List.length_append]
    show _ + (1 + _) ≤ _
    omega
theorem row_87 {o : Ob} (h : OS o) : (rowC o).length ≤ 87 := by
  have a := join_cons_len 32 (TL.tl o.kind) (o.fs.map fieldC)
  have b := join_len (c := 32) (B := 19) (xs := o.fs.map fieldC) fun x hx => row_parts_len h x (List.mem_cons_of_mem _ hx)
  have c := kd_len h
  rw [List.length_map] at b
  have : o.fs.length * (19 + 1) ≤ 4 * 20 := Nat.mul_le_mul_right _ h.f4
  unfold rowC
  omega
theorem text_3000 {ns : List (Str × Nat)} {os : List Ob} (hn : NS ns) (ho : ∀ o ∈ os, OS o) (hl : os.length ≤ 30) : (text2 ns os).length ≤ 3000 := by
  have a := join_cons_len 10 (first2 ns) (os.map rowC)
  have b := join_len (c := 10) (B := 87) (xs := os.map rowC) fun x hx => by
    obtain ⟨o, h, rfl⟩ := List.mem_map.mp hx
    exact row_87 (ho o h)
  have c := first_len hn
  rw [List.length_map] at b
  have : os.length * (87 + 1) ≤ 30 * 88 := Nat.mul_le_mul_right _ hl
  unfold text2
  omega
end K61
set_option Elab.async false
set_option linter.all false
set_option maxRecDepth 100000
set_option maxHeartbeats 2000000
namespace K61
open PySem PySem.Spec PyProof.Rows L2 Sim Pg K01
theorem dts_map {α : Type} {f : α → PV} {l : List α} (h : ∀ a ∈ l, dt (f a) = true) : dts (l.map f) = true := by
  induction l with
  | nil => rfl
  | cons a l ih =>
    rw [List.map_cons]
    unfold dts
    rw [h a (List.mem_cons_self ..), ih fun b hb => h b (List.mem_cons_of_mem _ hb)]
    rfl
theorem dt_str8 {z : Str} (h : (TL.tl z).length ≤ 1000) : dt (.str z) = true := by
  unfold dt
  rw [TL.len_tl]
  exact decide_eq_true (by omega)
theorem dt_pair {x y : PV} (h : dt x = true) (h2 : dt y = true) : dt (.tup [x, y]) = true := by
  unfold dt dts
  rw [h]
  unfold dts
  rw [h2]
  unfold dts
  rfl
theorem dt_tup_map {α : Type} {f : α → PV} {l : List α} (h : ∀ a ∈ l, dt (f a) = true) (hl : l.length ≤ 1000) : dt (.tup (l.map f)) = true := by
  unfold dt
  rw [dts_map h]
  unfold fitL
  rw [List.length_map, decide_eq_true (by omega)]
  rfl
theorem dt_fpv {p : Str × Vl} (h : FS p) : dt (fpv p) = true := by
  obtain ⟨k, v⟩ := p
  refine dt_pair (dt_str8 (by have := (wd_signs h.wd).2.2; omega)) ?_
  cases v <;> rfl
theorem dt_web {ns : List (Str × Nat)} {os : List Ob} (hn : NS ns) (ho : ∀ o ∈ os, OS o) (hl : os.length ≤ 1000) : dt (⟨os, ns⟩ : Web).pv = true := by
  refine dt_pair ?_ ?_
  · refine dt_tup_map (fun o h => ?_) hl
    have O := ho o h
    exact dt_pair (dt_str8 (by have := kd_len O; omega)) (dt_tup_map (fun p hp => dt_fpv (O.fs p hp)) (by have := O.f4; omega))
  · refine dt_tup_map (fun p h => ?_) (by have := hn.n6; show ns.length ≤ _; omega)
    exact dt_fpv (p := nf p) (hn.nf _ (List.mem_map_of_mem h))
theorem kinds_web (ns : List (Str × Nat)) {os : List Ob} (ho : ∀ o ∈ os, OS o) : kindsOk (⟨os, ns⟩ : Web).pv = true := by
  show (os.map Ob.pv).all _ = true
  rw [List.all_eq_true]
  intro x hx
  obtain ⟨o, h, rfl⟩ := List.mem_map.mp hx
  show plainP (.str o.kind) = true
  rcases (ho o h).kd with e | e <;> rw [e] <;> decide +kernel
theorem is_web_os {ns : List (Str × Nat)} {os : List Ob} (hn : NS ns) (ho : ∀ o ∈ os, OS o) (hl : os.length ≤ 1000) (st : Sto) : f_is_web [(⟨os, ns⟩ : Web).pv] st = .ok (.bl (webP (⟨os, ns⟩ : Web).pv)) st :=
  f_is_web_ok (dt_web hn ho hl) (kinds_web ns ho) st
/-! ### read -/
theorem read_lines {ns : List (Str × Nat)} {os : List Ob} (hn : NS ns) (ho : ∀ o ∈ os, OS o) (hl : os.length ≤ 1000) (v0 v2 v3 : Option PV) (st : Sto) : mApp sTup (mCons (mApp sTuple (mCons (mLc (mIter (mSlice (mVar 1) (oSome (mC (.int 1))) oNone)) (.one 3) bYes (mApp (fnN 1 f_object_in) (mCons (mVar 3) mNil)) [3]) mNil)) (mCons (mApp (fnN 1 f_pairs_in) (mCons (mM1 sSplit (mBin sIx (mVar 1) (mC (.int 0))) (mC (.str " "))) mNil)) mNil)) [v0, some (.lst (SV (first2 ns) :: (os.map rowC).map SV)), v2, v3] st = .ok (⟨os, ns⟩ : Web).pv st := by
  have fl : fitL ((os.map rowC).map SV) = true := by unfold fitL; rw [List.length_map, List.length_map]; exact decide_eq_true (by omega)
  have sl : ∀ s, sSlice (.lst (SV (first2 ns) :: (os.map rowC).map SV)) (some 1) none s = .ok (.lst ((os.map rowC).map SV)) s := fun s => slice_one _ _ s
  have ix : ∀ s, sIx (.lst (SV (first2 ns) :: (os.map rowC).map SV)) (.int 0) s = .ok (SV (first2 ns)) s := fun s => ixl0 _ _ s
  have it : ∀ (xs : List PV) s, sIter (.lst xs) s = .ok xs s := fun _ _ => rfl
  have lc : lcGo (.one 3) bYes (mApp (fnN 1 f_object_in) (mCons (mVar 3) mNil)) (wipeL [v0, some (.lst (SV (first2 ns) :: (os.map rowC).map SV)), v2, v3] [3]) ((os.map rowC).map SV) st = .ok (os.map Ob.pv) st := by
    rw [List.map_map]
    refine lcGo_rel (fun o => SV (rowC o)) Ob.pv os fun o h => ⟨_, rfl, ?_⟩
    have := object_in_ok (ho o h) st
    simp only [wipeL]
    simp_arith! [this, Res.only]
  have tu : ∀ s, sTuple [.lst (os.map Ob.pv)] s = .ok (.tup (os.map Ob.pv)) s := fun s => by
    simp only [sTuple, asL]
  have fs : ∀ s, sSplit (SV (first2 ns)) (SV [32]) s = .ok (.lst (((ns.map nf).map fieldC).map SV)) s := fun s => first_split hn s
  have pi : ∀ s, f_pairs_in [.lst (((ns.map nf).map fieldC).map SV)] s = .ok (.tup (ns.map npv)) s := fun s => by
    rw [npv_nf]
    exact pairs_in_ok hn.nf (by rw [List.length_map]; have := hn.n6; omega) s
  have tp : ∀ s, sTup [.tup (os.map Ob.pv), .tup (ns.map npv)] s = .ok (⟨os, ns⟩ : Web).pv s := fun s => rfl
  unfold mLc
  simp_arith! [mSlice, oSome, oNone, mM1, c_sp, sl, ix, it, fl, lc, tu, fs, pi, tp, Res.only]
theorem seq_nx' {a b : MS} {env e : Lo} {st s : Sto} (h : a env st = .nx e s) : cSeq a b env st = b e s := by
  show (match a env st with | .nx e s => b e s | r => r) = _
  rw [h]
theorem read_gen {r : MS} {q : MS} {ns : List (Str × Nat)} {os : List Ob} (hn : NS ns) (ho : ∀ o ∈ os, OS o) (hl : os.length ≤ 1000) (l3 : (text2 ns os).length ≤ 3000) (st : Sto) :
    (cSeq (cIf (bOr (bNot (bVal (mApp sIsi (mCons (mVar 0) (mCons (mC (.raw (.ty "str"))) mNil))))) (bVal (mBin sGt (mApp sLen (mCons (mVar 0) mNil)) (mC v_MOST_SIGNS)))) r cNil)
      (cSeq (cSet (.one 1) (mM1 sSplit (mVar 0) (mC (.str "\n"))))
      (cSeq (cSet (.one 2) (mApp sTup (mCons (mApp sTuple (mCons (mLc (mIter (mSlice (mVar 1) (oSome (mC (.int 1))) oNone)) (.one 3) bYes (mApp (fnN 1 f_object_in) (mCons (mVar 3) mNil)) [3]) mNil)) (mCons (mApp (fnN 1 f_pairs_in) (mCons (mM1 sSplit (mBin sIx (mVar 1) (mC (.int 0))) (mC (.str " "))) mNil)) mNil))))
      (cSeq (cIf (bOr (bNot (bVal (mApp (fnN 1 f_is_web) (mCons (mVar 2) mNil)))) (bVal (mBin sNe (mApp (fnN 1 f_text_of) (mCons (mVar 2) mNil)) (mVar 0)))) r cNil)
      q)))) [some (SV (text2 ns os)), none, none, none] st =
    if webP (⟨os, ns⟩ : Web).pv = true then q [some (SV (text2 ns os)), some (.lst (SV (first2 ns) :: (os.map rowC).map SV)), some (⟨os, ns⟩ : Web).pv, none] st
    else (cSeq r q) [some (SV (text2 ns os)), some (.lst (SV (first2 ns) :: (os.map rowC).map SV)), some (⟨os, ns⟩ : Web).pv, none] st := by
  have is : sIsi [SV (text2 ns os), .raw (.ty "str")] st = .ok (.bl true) st := isi_str (x := SV (text2 ns os)) rfl st
  have ln : ∀ s, sLen [SV (text2 ns os)] s = .ok (.int ((text2 ns os).length : Nat)) s := fun s => by
    have := lenS (z := Z (text2 ns os)) (by rw [Z_len]; omega) s
    rw [Z_len] at this
    exact this
  have gt : decide ((3000 : Int) < ((text2 ns os).length : Nat)) = false := decide_eq_false (by omega)
  have sp : ∀ s, sSplit (SV (text2 ns os)) (SV [10]) s = .ok (.lst (SV (first2 ns) :: (os.map rowC).map SV)) s := fun s => text_split hn ho (by omega) s
  have tx : ∀ s, f_text_of [(⟨os, ns⟩ : Web).pv] s = .ok (SV (text2 ns os)) s := fun s => text_ok hn ho (by omega) s
  have ne : ∀ s, sNe (SV (text2 ns os)) (SV (text2 ns os)) s = .ok (.bl false) s := fun s => by
    have : flatEq (SV (text2 ns os)) (SV (text2 ns os)) = some true := by
      simp [flatEq]
    simp only [sEqn, this]
    rfl
  have iw := is_web_os hn ho (by omega) st
  refine (seq_nx' (e := [some (SV (text2 ns os)), none, none, none]) (s := st) ?_).trans ?_
  · simp_arith! [is, ln, gt, v_MOST_SIGNS]
  refine (seq_nx' (e := [some (SV (text2 ns os)), some (.lst (SV (first2 ns) :: (os.map rowC).map SV)), none, none]) (s := st) ?_).trans ?_
  · simp_arith! [mM1, c_nl, sp]
  refine (seq_nx' (e := [some (SV (text2 ns os)), some (.lst (SV (first2 ns) :: (os.map rowC).map SV)), some (⟨os, ns⟩ : Web).pv, none]) (s := st) ?_).trans ?_
  · have := read_lines hn ho (by omega) (some (SV (text2 ns os))) none none st
    unfold cSet
    rw [this]
    rfl
  cases hw : webP (⟨os, ns⟩ : Web).pv with
  | true =>
    rw [if_pos rfl]
    refine seq_nx' ?_
    rw [hw] at iw
    simp_arith! [iw, tx, ne]
  | false =>
    rw [if_neg (by decide)]
    rw [hw] at iw
    unfold cSeq cIf
    simp_arith! [iw]
end K61
set_option Elab.async false
set_option linter.all false
set_option maxRecDepth 100000
set_option maxHeartbeats 1000000
namespace K01
open PySem PySem.Spec PyProof.Rows L2 Sim Pg
/-! ### the menu -/
end K01
set_option Elab.async false
set_option linter.all false
set_option maxRecDepth 100000
set_option maxHeartbeats 1000000
namespace K01
open PySem PySem.Spec PyProof.Rows L2 Sim Pg
mutual
def cl : PV → Bool
  | .ref _ => false
  | .tup xs => cls xs
  | .lst xs => cls xs
  | _ => true
def cls : List PV → Bool
  | [] => true
  | x :: xs => cl x && cls xs
end
end K01
set_option Elab.async false
set_option linter.all false
set_option maxRecDepth 100000
set_option maxHeartbeats 1000000
namespace K01
open PySem PySem.Spec PyProof.Rows L2 Sim Pg
/-! ### cells -/
theorem small_of {i : Int} (h : i.natAbs < 2 ^ 1000) : smallB i = true := by
  unfold smallB
  rw [decide_eq_true_eq]
  by_cases h0 : i.natAbs = 0
  · rw [h0]; decide
  · have := (Nat.log2_lt h0).mpr h
    omega
theorem small_64 {i : Int} (h0 : -18446744073709551616 < i) (h1 : i < 18446744073709551616) : smallB i = true := small_of (by
  have : (18446744073709551616 : Nat) ≤ 2 ^ 1000 := by decide +kernel
  omega)
theorem mulI {a b : Int} (ha : smallB a = true) (hb : smallB b = true) (st : Sto) : sMul (.int a) (.int b) st = .ok (.int (a * b)) st := by
  simp only [sMul, ha, hb, Bool.and_self, if_true]
theorem mixed_sp (c k : Int) (h0 : 0 ≤ k) (h1 : k < 100000) (st : Sto) : ∃ m, f__law_mixed [.int c, .int k] st = .ok (.int m) st ∧ 0 ≤ m ∧ m < 2147483579 := by
  obtain ⟨c1, e1⟩ : ∃ x : Int, c % 2147483647 = x := ⟨_, rfl⟩
  have b1 : 0 ≤ c1 ∧ c1 < 2147483647 := by omega
  obtain ⟨m1, e2⟩ : ∃ x : Int, (c1 * 48271 + k * 69621 + 1048583) % 2147483629 = x := ⟨_, rfl⟩
  have b2 : 0 ≤ m1 ∧ m1 < 2147483629 := by omega
  obtain ⟨m2, e3⟩ : ∃ x : Int, (m1 * m1) % 2147483587 = x := ⟨_, rfl⟩
  have b3 : 0 ≤ m2 ∧ m2 < 2147483587 := ⟨by rw [← e3]; exact Int.emod_nonneg _ (by decide), by rw [← e3]; exact Int.emod_lt_of_pos _ (by decide)⟩
  obtain ⟨m3, e4⟩ : ∃ x : Int, (m2 * (m2 + 2)) % 2147483579 = x := ⟨_, rfl⟩
  have b4 : 0 ≤ m3 ∧ m3 < 2147483579 := ⟨by rw [← e4]; exact Int.emod_nonneg _ (by decide), by rw [← e4]; exact Int.emod_lt_of_pos _ (by decide)⟩
  refine ⟨m3, ?_, b4⟩
  unfold f__law_mixed m__law_mixed
  have q1 : ∀ s : Sto, sMul (.int c1) (.int 48271) s = .ok (.int (c1 * 48271)) s := mulI (small_64 (by omega) (by omega)) (small_64 (by omega) (by omega))
  have q2 : ∀ s : Sto, sMul (.int k) (.int 69621) s = .ok (.int (k * 69621)) s := mulI (small_64 (by omega) (by omega)) (small_64 (by omega) (by omega))
  have q3 : ∀ s : Sto, sMul (.int m1) (.int m1) s = .ok (.int (m1 * m1)) s := mulI (small_64 (by omega) (by omega)) (small_64 (by omega) (by omega))
  have q4 : ∀ s : Sto, sMul (.int m2) (.int (m2 + 2)) s = .ok (.int (m2 * (m2 + 2))) s := mulI (small_64 (by omega) (by omega)) (small_64 (by omega) (by omega))
  simp_arith! [int_ok, mod_ok c 2147483647 (by decide), e1, q1, q2, addI, mod_ok _ 2147483629 (by decide), e2, q3, mod_ok _ 2147483587 (by decide), e3, q4, mod_ok _ 2147483579 (by decide), e4]
def Bd : Nat → Int
  | 0 => 1
  | j + 1 => Bd j * 2147483648
theorem Bd_pos : ∀ j, 1 ≤ Bd j
  | 0 => by simp [Bd]
  | j + 1 => by have := Bd_pos j; simp only [Bd]; omega
theorem Bd_mono {i j : Nat} (h : i ≤ j) : Bd i ≤ Bd j := by
  induction h with
  | refl => exact Int.le_refl _
  | @step m h ih => have := Bd_pos m; simp only [Bd]; omega
theorem Bd_small {j : Nat} (hj : j ≤ 24) {f : Int} (h0 : 0 ≤ f) (h1 : f < Bd j) : smallB f = true := by
  have h2 := Bd_mono hj
  have h3 : Bd 24 < ((2 ^ 1000 : Nat) : Int) := by decide +kernel
  exact small_of (by omega)
def T18 : Int := 1000000000000000000
def T60 : Int := 1000000000000000000000000000000000000000000000000000000000000
theorem p18 (st : Sto) : sPow (.int 10) (.int 18) st = .ok (.int T18) st := by kernel_rfl
theorem p60 (st : Sto) : sPow (.int 10) (.int 60) st = .ok (.int T60) st := by kernel_rfl
theorem s60 : smallB T60 = true := by decide +kernel
theorem s120 : smallB (T60 * T60) = true := by decide +kernel
theorem s180 : smallB (T60 * T60 * T60) = true := by decide +kernel
theorem t240 : 0 < T60 * T60 * T60 * T60 := by decide +kernel
theorem rangeP_cons (lo : Int) (n : Nat) : rangeP lo (n + 1) = .int lo :: rangeP (lo + 1) n := by
  unfold rangeP
  rw [List.range_succ_eq_map, List.map_cons, List.map_map]
  congr 1
  · simp
  · apply List.map_congr_left
    intro i _
    show PV.int (lo + ((i + 1 : Nat) : Int)) = PV.int (lo + 1 + (i : Int))
    congr 1
    omega
theorem range24 (s : Sto) (env : Lo) : mRange1 (mC (.int 24)) env s = .ok (rangeP 0 24) s := rfl
theorem cell_sp (ns : List Int) (k : Int) (h0 : 0 ≤ k) (h1 : k < 100) (st : Sto) : ∃ c, f__law_cell [scriptP ns, .int k] st = .ok (.int c) st := by
  unfold f__law_cell m__law_cell
  have hcell : ∃ c : Int, (cIf (bVal (mBin sLt (mVar 1) (mApp sLen (mCons (mVar 0) mNil)))) (cSet (.one 2) (mBin sIx (mVar 0) (mVar 1))) cNil) [some (scriptP ns), some (.int k), some (.int 0), none, none] st = .nx [some (scriptP ns), some (.int k), some (.int c), none, none] st := by
    have hl : sLen [scriptP ns] st = .ok (.int ns.length) st := by
      simp only [scriptP, sLen, asS, asL, List.length_map]
    rcases Bool.eq_false_or_eq_true (decide (k < (ns.length : Int))) with hb | hb
    · obtain ⟨i, hi⟩ := Int.eq_ofNat_of_zero_le h0
      have hil : i < ns.length := by
        rw [decide_eq_true_eq] at hb
        omega
      refine ⟨ns[i], (cIf_t (s := st) (by simp_arith! [hl, hb])).trans ?_⟩
      have e : sIx (scriptP ns) (.int k) st = .ok (.int ns[i]) st := by
        have := atI_nat (xs := ns.map PV.int) (i := i) (by simpa using hil)
        rw [← hi] at this
        simp only [scriptP, sIx, asD, asL, this, List.getElem_map]
      simp_arith! [e]
    · exact ⟨0, (cIf_f (s := st) (by simp_arith! [hl, hb])).trans rfl⟩
  obtain ⟨c, hc⟩ := hcell
  rcases Bool.eq_false_or_eq_true (decide (T18 ≤ c)) with hb | hb
  · refine ⟨(c - T18) % (T60 * T60 * T60 * T60), ?_⟩
    simp_arith! [↓hc, p18, hb, sub_ok, int_ok, p60, mulI s60 s60, mulI s120 s60, mulI s180 s60, mod_ok _ _ t240]
  · have loop := for_inv (t := .one 4) (body := (cSet (.one 3) (mBin sAdd (mBin sMul (mVar 3) (mC (.int 2147483579))) (mApp (fnN 2 f__law_mixed) (mCons (mVar 2) (mCons (mBin sAdd (mBin sAdd (mBin sMul (mC (.int 7)) (mVar 1)) (mBin sMul (mC (.int 100)) (mVar 4))) (mBin sMul (mVar 4) (mVar 4))) mNil))))))
      (fun rem e s => ∃ f j v, e = [some (scriptP ns), some (.int k), some (.int c), some (.int f), v] ∧ s = st ∧ 0 ≤ f ∧ f < Bd j ∧ j ≤ 24 ∧ rem = rangeP (j : Int) (24 - j))
      (by
        rintro x xs e s ⟨f, j, v, rfl, rfl, f0, f1, hj, hr⟩
        obtain ⟨m, hm⟩ : ∃ m, 24 - j = m + 1 := by
          cases h : 24 - j with
          | zero => rw [h] at hr; simp [rangeP] at hr
          | succ m => exact ⟨m, rfl⟩
        rw [hm, rangeP_cons, List.cons.injEq] at hr
        obtain ⟨rfl, rfl⟩ := hr
        obtain ⟨z, hz⟩ : ∃ z : Int, (j : Int) = z := ⟨_, rfl⟩
        have z0 : 0 ≤ z ∧ z < 24 := by omega
        rw [hz]
        refine ⟨_, rfl, ?_⟩
        obtain ⟨y, hy⟩ : ∃ y : Int, 7 * k + 100 * z + z * z = y := ⟨_, rfl⟩
        have hzz : 0 ≤ z * z ∧ z * z ≤ 529 := by
          have : z = 0 ∨ z = 1 ∨ z = 2 ∨ z = 3 ∨ z = 4 ∨ z = 5 ∨ z = 6 ∨ z = 7 ∨ z = 8 ∨ z = 9 ∨ z = 10 ∨ z = 11 ∨ z = 12 ∨ z = 13 ∨ z = 14 ∨ z = 15 ∨ z = 16 ∨ z = 17 ∨ z = 18 ∨ z = 19 ∨ z = 20 ∨ z = 21 ∨ z = 22 ∨ z = 23 := by omega
          rcases this with rfl | rfl | rfl | rfl | rfl | rfl | rfl | rfl | rfl | rfl | rfl | rfl | rfl | rfl | rfl | rfl | rfl | rfl | rfl | rfl | rfl | rfl | rfl | rfl <;> decide
        obtain ⟨mx, q1, q2, q3⟩ := mixed_sp c y (by omega) (by omega) s
        have r1 : ∀ s : Sto, sMul (.int f) (.int 2147483579) s = .ok (.int (f * 2147483579)) s := mulI (Bd_small hj f0 f1) (small_64 (by omega) (by omega))
        have r2 : ∀ s : Sto, sMul (.int 7) (.int k) s = .ok (.int (7 * k)) s := mulI (small_64 (by omega) (by omega)) (small_64 (by omega) (by omega))
        have r3 : ∀ s : Sto, sMul (.int 100) (.int z) s = .ok (.int (100 * z)) s := mulI (small_64 (by omega) (by omega)) (small_64 (by omega) (by omega))
        have r4 : ∀ s : Sto, sMul (.int z) (.int z) s = .ok (.int (z * z)) s := mulI (small_64 (by omega) (by omega)) (small_64 (by omega) (by omega))
        refine ⟨[some (scriptP ns), some (.int k), some (.int c), some (.int (f * 2147483579 + mx)), some (.int z)], s, ?_, _, j + 1, _, rfl, rfl, by omega, ?_, by omega, ?_⟩
        · simp_arith! [r1, r2, r3, r4, addI, hy, q1]
        · simp only [Bd]; omega
        · rw [← hz, show 24 - (j + 1) = m by omega]; rfl)
      (xs := rangeP 0 24) (e := [some (scriptP ns), some (.int k), some (.int c), some (.int 0), none]) (s := st)
      ⟨0, 0, none, rfl, rfl, by decide, by decide, by decide, rfl⟩
    obtain ⟨e, s, l1, f, j, v, rfl, rfl, _⟩ := loop
    exact ⟨f, by simp_arith! [↓hc, p18, hb, range24, l1]⟩
end K01
set_option Elab.async false
set_option linter.all false
set_option maxRecDepth 100000
set_option maxHeartbeats 1000000
namespace K01
open PySem PySem.Spec PyProof.Rows L2 Sim Pg
/-! ### look and place -/
/-! what is asked of them -/
def VIn (v : Option Vl) : Prop := ∀ i, v = some (.int i) → -999999999 ≤ i ∧ i ≤ 999999999
theorem VIn.step {w : Web} (h : w.Ok) (v : Option Vl) (k : Str) : VIn (stepV w v k) := fun i e => by
  unfold stepV at e
  split at e
  · rename_i m
    obtain ⟨o, eo, e2⟩ := Option.bind_eq_some_iff.mp e
    exact (h.ob o (List.mem_of_getElem? eo)).vl _ (asc_mem e2)
  · cases e
end K01
set_option Elab.async false
set_option linter.all false
set_option maxRecDepth 100000
set_option maxHeartbeats 1000000
namespace K01
open PySem PySem.Spec PyProof.Rows L2 Sim Pg
theorem Web.Ok.sz {w : Web} (h : w.Ok) : Sim.sz w.pv ≤ 2 ^ 16 := by
  have d := h.data
  have h30 := h.o30
  have h6 := h.n6
  have s1 := szs_le (m := 200) fun x hx => (d.os x hx).hsz
  have s2 := szs_le (m := 100) fun x hx => ((d.ns x hx).n (by rw [List.length_map]; omega)).s
  simp only [List.length_map] at s1 s2
  have e : (2 : Nat) ^ 16 = 65536 := by decide
  simp only [Web.pv, Sim.sz, szs]
  omega
/-! ### the law -/
theorem forget {t : Tgt} {body : MS} {N : Lo → Sto → Prop} {R : PV → Sto → Prop} {B C : Lo → Sto → Prop} (P : PV → Prop) (I : Lo → Sto → Prop) (step : ∀ x e s, P x → I e s → ∃ e1, t.run x e = some e1 ∧ wO (body e1 s) I R N I) {xs : List PV} (hx : ∀ x ∈ xs, P x) {e : Lo} {s : Sto} (h : I e s) (fin : ∀ e s, I e s → N e s) : wO (forGo t body xs e s) N R B C := by
  refine w_forGo (I := fun rem e s => (∀ x ∈ rem, P x) ∧ I e s) ?_ (fun e s h => fin e s h.2) ⟨hx, h⟩
  rintro x xs e s ⟨hp, hi⟩
  obtain ⟨e1, r, w⟩ := step x e s (hp x (List.mem_cons_self ..)) hi
  refine ⟨e1, r, ?_⟩
  have hn : ∀ y ∈ xs, P y := fun y hy => hp y (List.mem_cons_of_mem _ hy)
  revert w
  cases body e1 s with
  | nx e s => exact fun w => ⟨hn, w⟩
  | ct e s => exact fun w => ⟨hn, w⟩
  | bk e s => exact fun w => w
  | rt v s => exact fun w => w
  | exc n fs s => exact fun w => w
  | bad => exact fun w => w
def Small (m : Int) (x : PV) : Prop := ∃ z : Int, x = .int z ∧ 0 ≤ z ∧ z < m
theorem range_small (m : Nat) : ∀ x ∈ rangeP 0 m, Small m x := fun x hx => by
  simp only [rangeP, List.mem_map, List.mem_range] at hx
  obtain ⟨i, hi, rfl⟩ := hx
  exact ⟨_, rfl, by omega, by omega⟩
theorem max_ok (n : Nat) (st : Sto) : ∃ m : Nat, 1 ≤ m ∧ m ≤ 5 ∧ ∀ st, sMax2 [.int (if (5 : Int) < (n : Int) then 5 else (n : Int)), .int 1] st = .ok (.int (m : Nat)) st := by
  by_cases h : (5 : Int) < n
  · exact ⟨5, by decide, by decide, fun st => by rw [if_pos h]; rfl⟩
  · rw [if_neg h]
    by_cases h1 : n = 0
    · exact ⟨1, by decide, by decide, fun st => by subst h1; rfl⟩
    · exact ⟨n, by omega, by omega, fun st => by simp only [sMax2]; rw [if_neg (by omega)]⟩
/-- the turns of a law of at most five cells -/
theorem turns (ns : List Int) (env : Lo) (st : Sto) (h0 : env[0]? = some (some (scriptP ns))) : ∃ m : Nat, m ≤ 5 ∧ mRange1 (mApp sMax2 (mCons (mApp sMin2 (mCons (mApp sLen (mCons (mVar 0) mNil)) (mCons (mC (.int 5)) mNil))) (mCons (mC (.int 1)) mNil))) env st = .ok (rangeP 0 m) st := by
  obtain ⟨m, h1, h2, e⟩ := max_ok ns.length st
  refine ⟨m, h2, ?_⟩
  have e2 : sLen [scriptP ns] st = .ok (.int (ns.length : Nat)) st := by
    show Res.ok (PV.int ((ns.map PV.int).length : Nat)) st = _
    rw [List.length_map]
  have e3 : sMin2 [.int (ns.length : Nat), .int 5] st = .ok (.int (if (5 : Int) < (ns.length : Int) then 5 else (ns.length : Int))) st := rfl
  simp_arith! [mRange1, h0, e2, e3, e]
  rw [if_pos (range_ok _ (by omega) (by omega)), Int.toNat_natCast]
theorem own_new (c : Int) (s : Sto) : Dr s.length (s ++ [.lst [.int c]]) := ⟨c, by simp⟩
theorem lstM1 (x : PV) (st : Sto) : sLstM [x] st = .ok (.ref st.length) (st ++ [.lst [x]]) := rfl
end K01
set_option Elab.async false
set_option linter.all false
set_option maxRecDepth 100000
set_option maxHeartbeats 1000000
namespace K01
open PySem PySem.Spec PyProof.Rows L2 Sim Pg
/-! ### statements -/
inductive Val where
  | int (i : Int) | path (p : List Str)
inductive Stm where
  | read (p : List Str) | set (p : List Str) (v : Val) | name (k : Str) (p : List Str)
def Val.pv : Val → PV
  | .int i => .int i
  | .path p => ppath p
def Stm.pv : Stm → PV
  | .read p => .tup [.str "read", ppath p]
  | .set p v => .tup [.str "set", ppath p, v.pv]
  | .name k p => .tup [.str "name", .str k, ppath p]
def Val.Ok : Val → Prop
  | .int i => -999999999 ≤ i ∧ i ≤ 999999999
  | .path p => Path p
def Stm.Ok : Stm → Prop
  | .read p => Path p
  | .set p v => Path p ∧ 2 ≤ p.length ∧ v.Ok
  | .name k p => Wd k ∧ Path p
def putV {α : Type} (l : List (Str × α)) (k : Str) (v : α) : List (Str × α) := l.map fun q => (q.1, if q.1 = k then v else q.2)
def setOb (w : Web) (n : Nat) (k : Str) (v : Vl) : Web := ⟨w.os.set n ⟨kindAt0 w n, putV (fieldsAt0 w n) k v⟩, w.ns⟩
where
  kindAt0 (w : Web) (n : Nat) : Str := match w.os[n]? with
    | some o => o.kind
    | none => "open"
  fieldsAt0 (w : Web) (n : Nat) : List (Str × Vl) := match w.os[n]? with
    | some o => o.fs
    | none => []
/-! a path, its last word apart -/
/-! what stays a web -/
/-! answers are data -/
structure Ans (x : PV) : Prop where
  nv : nv 2 x = true
  pl : pl x = true
  sz : sz x ≤ 60
theorem Ans.low {x : PV} (h : Ans x) (n : Nat) : Sim.low n x = true := low_nv h.nv
end K01
set_option Elab.async false
set_option linter.all false
set_option maxRecDepth 100000
set_option maxHeartbeats 1000000
namespace K01
open PySem PySem.Spec PyProof.Rows L2 Sim Pg
/-! ### the program executes a statement -/
end K01
set_option Elab.async false
set_option linter.all false
set_option maxRecDepth 100000
set_option maxHeartbeats 1000000
namespace K01
open PySem PySem.Spec PyProof.Rows L2 Sim Pg
/-! ### the law executes a statement -/
end K01
set_option Elab.async false
set_option linter.all false
set_option maxRecDepth 100000
set_option maxHeartbeats 1000000
namespace K01
open PySem PySem.Spec PyProof.Rows L2 Sim Pg
/-! ### scripts are recognized -/
theorem Val.data {v : Val} (h : v.Ok) : Sim.nv 2 v.pv = true ∧ Sim.pl v.pv = true ∧ Sim.sz v.pv ≤ 576 := by
  cases v with
  | int i => exact ⟨int_nv h.1 h.2, rfl, by simp [Val.pv, Sim.sz]⟩
  | path p => exact ⟨Path.nv h 1, pls_strs p, Path.sz h⟩
theorem pl_path (p : List Str) : Sim.pl (ppath p) = true := pls_strs p
theorem Stm.data {s : Stm} (h : s.Ok) : Sim.nv 3 s.pv = true ∧ Sim.pl s.pv = true ∧ Sim.sz s.pv ≤ 1200 := by
  cases s with
  | read p =>
    have hp : Path p := h
    have := hp.sz
    refine ⟨?_, ?_, ?_⟩
    · show (Sim.nv 2 (.str "read") && (Sim.nv 2 (ppath p) && true)) = true
      rw [hp.nv 1]; decide +kernel
    · show (true && (Sim.pl (ppath p) && true)) = true
      rw [pl_path]; rfl
    · have k : ("read" : Str).cps.size = 4 := by decide +kernel
      simp only [Stm.pv, Sim.sz, szs, k]; omega
  | set p v =>
    obtain ⟨hp, h2, hv⟩ := h
    obtain ⟨d1, d2, d3⟩ := Val.data hv
    have := hp.sz
    refine ⟨?_, ?_, ?_⟩
    · show (Sim.nv 2 (.str "set") && (Sim.nv 2 (ppath p) && (Sim.nv 2 v.pv && true))) = true
      rw [hp.nv 1, d1]; decide +kernel
    · show (true && (Sim.pl (ppath p) && (Sim.pl v.pv && true))) = true
      rw [pl_path, d2]; rfl
    · have k : ("set" : Str).cps.size = 3 := by decide +kernel
      simp only [Stm.pv, Sim.sz, szs, k]; omega
  | name k p =>
    obtain ⟨hk, hp⟩ := h
    have := hp.sz
    have := hk.len
    refine ⟨?_, ?_, ?_⟩
    · show (Sim.nv 2 (.str "name") && (Sim.nv 2 (.str k) && (Sim.nv 2 (ppath p) && true))) = true
      rw [hp.nv 1, hk.nv]; decide +kernel
    · show (true && (true && (Sim.pl (ppath p) && true))) = true
      rw [pl_path]; rfl
    · have k : ("name" : Str).cps.size = 4 := by decide +kernel
      simp only [Stm.pv, Sim.sz, szs, k]; omega
/-! ### a script is executed -/
end K01
set_option Elab.async false
set_option linter.all false
set_option maxRecDepth 100000
set_option maxHeartbeats 1000000
namespace K01
open PySem PySem.Spec PyProof.Rows L2 Sim Pg
/-! ### drawn statements -/
end K01
set_option Elab.async false
set_option linter.all false
set_option maxRecDepth 100000
set_option maxHeartbeats 1000000
namespace K01
open PySem PySem.Spec PyProof.Rows L2 Sim Pg
/-! ### the values that are no webs -/
end K01
set_option Elab.async false
set_option linter.all false
set_option maxRecDepth 100000
set_option maxHeartbeats 1000000
namespace K01
open PySem PySem.Spec PyProof.Rows L2 Sim Pg
/-! ### .. whatever stands in the store: one to three lists -/
end K01
set_option Elab.async false
set_option linter.all false
set_option maxRecDepth 100000
set_option maxHeartbeats 1000000
set_option Elab.async false
set_option linter.all false
set_option maxRecDepth 100000
set_option maxHeartbeats 1000000
set_option Elab.async false
set_option linter.all false
set_option maxRecDepth 100000
set_option maxHeartbeats 1000000
namespace K01
open PySem PySem.Spec PyProof.Rows L2 Sim Pg
/-! ### what is met, breadth-first -/
def vref : Vl → Option Nat
  | .ref n => some n
  | .int _ => none
def refs (fs : List (Str × Vl)) : List Nat := fs.filterMap fun p => vref p.2
def add1 (acc : List Nat) (n : Nat) : List Nat := if n ∈ acc then acc else acc ++ [n]
def addNew (acc ns : List Nat) : List Nat := ns.foldl add1 acc
def fieldsAt (w : Web) (n : Nat) : List (Str × Vl) := match w.os[n]? with
  | some o => o.fs
  | none => []
def bfs (w : Web) : Nat → List Nat → Nat → List Nat
  | 0, order, _ => order
  | f + 1, order, i => match order[i]? with
    | none => order
    | some n => bfs w f (addNew order (refs (fieldsAt w n))) (i + 1)
def met (w : Web) (starts : List Nat) : List Nat := bfs w 31 (addNew [] starts) 0
theorem mem_add1 {acc : List Nat} {n m : Nat} : m ∈ add1 acc n ↔ m ∈ acc ∨ m = n := by
  unfold add1
  split
  · rename_i h
    exact ⟨.inl, fun q => q.elim id fun e => e ▸ h⟩
  · simp
theorem mem_addNew : ∀ {ns acc : List Nat} {m : Nat}, m ∈ addNew acc ns ↔ m ∈ acc ∨ m ∈ ns
  | [], acc, m => by simp [addNew]
  | n :: ns, acc, m => by
    show m ∈ addNew (add1 acc n) ns ↔ _
    rw [mem_addNew, mem_add1, List.mem_cons, or_assoc]
theorem nodup_add1 {acc : List Nat} {n : Nat} (h : acc.Nodup) : (add1 acc n).Nodup := by
  unfold add1
  split
  · exact h
  · rename_i hn
    rw [List.nodup_append]
    exact ⟨h, by simp, fun a ha b hb e => by rw [List.mem_singleton.mp hb] at e; exact hn (e ▸ ha)⟩
theorem nodup_addNew : ∀ {ns acc : List Nat}, acc.Nodup → (addNew acc ns).Nodup
  | [], _, h => h
  | n :: ns, acc, h => nodup_addNew (ns := ns) (nodup_add1 (n := n) h)
theorem pre_add1 (acc : List Nat) (n : Nat) : acc <+: add1 acc n := by
  unfold add1
  split
  · exact List.prefix_refl _
  · exact List.prefix_append ..
theorem pre_addNew : ∀ (ns acc : List Nat), acc <+: addNew acc ns
  | [], acc => List.prefix_refl _
  | n :: ns, acc => (pre_add1 acc n).trans (pre_addNew ns (add1 acc n))
theorem refs_lt {w : Web} (h : w.Ok) (n : Nat) : ∀ r ∈ refs (fieldsAt w n), r < w.os.length := fun r hr => by
  unfold fieldsAt at hr
  split at hr
  · rename_i o eo
    obtain ⟨p, hp, e⟩ := List.mem_filterMap.mp hr
    have := (h.ob o (List.mem_of_getElem? eo)).vl p hp
    cases hv : p.2 with
    | int i => rw [hv] at e; cases e
    | ref m => rw [hv] at e this; cases e; exact this
  · cases hr
/-- between two turns -/
structure BI (w : Web) (order : List Nat) (i : Nat) : Prop where
  nd : order.Nodup
  lt : ∀ n ∈ order, n < w.os.length
  le : i ≤ order.length
  cl : ∀ j < i, ∀ n, order[j]? = some n → ∀ r ∈ refs (fieldsAt w n), r ∈ order
theorem len_nodup : ∀ {k : Nat} {l : List Nat}, l.Nodup → (∀ n ∈ l, n < k) → l.length ≤ k
  | 0, [], _, _ => Nat.le_refl _
  | 0, n :: _, _, hl => absurd (hl n (List.mem_cons_self ..)) (Nat.not_lt_zero _)
  | k + 1, l, h, hl => by
    have := len_nodup (k := k) (l := l.erase k) (h.erase k) fun n hn => by
      have hm := h.mem_erase_iff.mp hn
      have := hl n hm.2
      have := hm.1
      omega
    by_cases hk : k ∈ l
    · rw [List.length_erase_of_mem hk] at this; omega
    · rw [List.erase_of_not_mem hk] at this; omega
theorem BI.len {w : Web} {order : List Nat} {i : Nat} (b : BI w order i) : order.length ≤ w.os.length := len_nodup b.nd b.lt
theorem BI.start {w : Web} {starts : List Nat} (h : ∀ n ∈ starts, n < w.os.length) : BI w (addNew [] starts) 0 :=
  ⟨nodup_addNew .nil, fun n hn => by rcases mem_addNew.mp hn with z | z; cases z; exact h n z, Nat.zero_le _, nofun⟩
theorem BI.step {w : Web} (h : w.Ok) {order : List Nat} {i n : Nat} (b : BI w order i) (e : order[i]? = some n) : BI w (addNew order (refs (fieldsAt w n))) (i + 1) := by
  have hi := (List.getElem?_eq_some_iff.mp e).1
  have hp := pre_addNew (refs (fieldsAt w n)) order
  have hlen := hp.length_le
  refine ⟨nodup_addNew b.nd, fun m hm => ?_, by omega, fun j hj m em r hr => ?_⟩
  · rcases mem_addNew.mp hm with z | z
    · exact b.lt m z
    · exact refs_lt h n m z
  · have e2 : order[j]? = some m := by
      have hj2 : j < order.length := by omega
      have := List.IsPrefix.getElem hp hj2
      rw [List.getElem?_eq_getElem (by omega)] at em
      rw [List.getElem?_eq_getElem hj2, this]; exact em
    by_cases hji : j < i
    · exact mem_addNew.mpr (.inl (b.cl j hji m e2 r hr))
    · have : j = i := by omega
      subst this
      rw [e] at e2; cases e2
      exact mem_addNew.mpr (.inr hr)
/-! ### the web that is met -/
def pos (F : List Nat) (n : Nat) : Nat := F.idxOf n
def mvV (F : List Nat) : Vl → Vl
  | .ref n => .ref (pos F n)
  | .int i => .int i
def mvF (F : List Nat) (fs : List (Str × Vl)) : List (Str × Vl) := fs.map fun p => (p.1, mvV F p.2)
def kindAt (w : Web) (n : Nat) : Str := match w.os[n]? with
  | some o => o.kind
  | none => "open"
def renum (w : Web) (F : List Nat) : Web := ⟨F.map fun n => ⟨kindAt w n, mvF F (fieldsAt w n)⟩, w.ns.map fun p => (p.1, pos F p.2)⟩
def trim (w : Web) : Web := renum w (met w (w.ns.map (·.2)))
end K01
set_option Elab.async false
set_option linter.all false
set_option maxRecDepth 100000
set_option maxHeartbeats 1000000
namespace K01
open PySem PySem.Spec PyProof.Rows L2 Sim Pg
def ipv (n : Nat) : PV := .int (n : Nat)
theorem nvs_nat {n : Nat} {ns : List Nat} (h : ∀ m ∈ ns, m < 1000) : nvs n (ns.map ipv) = true := nvs_iff.mpr fun x hx => by
  obtain ⟨m, hm, rfl⟩ := List.mem_map.mp hx
  have := h m hm
  exact int_nv (by omega) (by omega)
theorem pls_nat (ns : List Nat) : pls (ns.map ipv) = true := pls_iff.mpr fun x hx => by
  obtain ⟨m, hm, rfl⟩ := List.mem_map.mp hx
  rfl
theorem toDs_nat (ns : List Nat) : toDs (ns.map ipv) = some (ns.map fun n => PyData.int (n : Nat)) := by
  induction ns with
  | nil => rfl
  | cons a l ih => simp only [List.map_cons, toDs, ipv, toD, ih]
theorem any_nat (ns : List Nat) (n : Nat) : ((ns.map fun n => PyData.int (n : Nat)).any fun z => PyData.eqv z (.int (n : Nat))) = decide (n ∈ ns) := by
  induction ns with
  | nil => rfl
  | cons a l ih =>
    simp only [List.map_cons, List.any_cons, ih, PyData.eqv]
    by_cases h : a = n
    · subst h; simp
    · have h2 : ¬ ((a : Int) = (n : Int)) := fun e => h (Int.ofNat.inj e)
      have h3 : ¬ n = a := fun e => h e.symm
      simp [h3, h2]
/-- in a list of the store -/
theorem inM {s : Sto} {L : Nat} {ns : List Nat} (e : s[L]? = some (.lst (ns.map ipv))) (hs : ∀ m ∈ ns, m < 1000) {n : Nat} (hn : n < 1000) (neg : Bool) : sInn neg (ipv n) (.ref L) s = .ok (.bl (if neg then !decide (n ∈ ns) else decide (n ∈ ns))) s := by
  obtain ⟨d1, q1, q2⟩ := plain_shaped (n := 1) (x := .lst (ns.map ipv)) (by decide) (nvs_nat (n := 0) hs) (pls_nat ns)
  simp only [toD, toDs_nat, Option.map_some, Option.some.injEq] at q1
  subst q1
  obtain ⟨d2, q3, q4⟩ := plain_shaped (n := 1) (x := ipv n) (by decide) (int_nv (by omega) (by omega)) rfl
  cases q3
  have h1 : asD s (.ref L) = none := by simp only [asD, e]
  have h2 : (asL s (.ref L)).bind toDs = some (ns.map fun n => PyData.int (n : Nat)) := by simp only [asL, e, Option.bind_some, toDs_nat]
  have h3 : toDS s (ipv n) = some (.int (n : Nat)) := rfl
  simp only [sInn, h1, h2, h3, q2, q4, Bool.and_self, if_true, any_nat]
theorem ref_int (n : Nat) : Vl.pv (.ref n) = .tup [ipv n] := rfl
theorem isi_vl (v : Vl) (st : Sto) : sIsi [v.pv, .raw (.ty "tuple")] st = .ok (.bl (isRef (some v))) st := by cases v <;> rfl
theorem fld1 (p : Str × Vl) (st : Sto) : sIx (fpv p) (.int 1) st = .ok p.2.pv st := ix1s _ _ _ st
/-- the store with one list of numbers at its end -/
abbrev sN (st : Sto) (ns : List Nat) : Sto := st ++ [.lst (ns.map ipv)]
theorem sN_at (st : Sto) (ns : List Nat) : (sN st ns)[st.length]? = some (.lst (ns.map ipv)) := get_end st _
theorem sN_app (st : Sto) (ns : List Nat) (n : Nat) (h : ns.length < 1000) : sApp (.ref st.length) (ipv n) (sN st ns) = .ok .non (sN st (ns ++ [n])) := by
  rw [app_ok (sN_at st ns) (by rw [List.length_map]; omega), set_end]
  simp
theorem sN_isl (st : Sto) (ns : List Nat) : isLst (.ref st.length) (sN st ns) = true := isl_ok (sN_at st ns)
theorem ixN {st : Sto} {ns : List Nat} {i n : Nat} (e : ns[i]? = some n) : sIx (.ref st.length) (.int (i : Nat)) (sN st ns) = .ok (ipv n) (sN st ns) := by
  obtain ⟨hi, e2⟩ := List.getElem?_eq_some_iff.mp e
  have := ixRM (sN_at st ns) (i := i) (by rwa [List.length_map])
  rw [this, List.getElem_map, e2]
end K01
set_option Elab.async false
set_option linter.all false
set_option maxRecDepth 100000
set_option maxHeartbeats 1000000
namespace K01
open PySem PySem.Spec PyProof.Rows L2 Sim Pg
/-- the inner loop of the law -/
theorem inner2_w {st : Sto} {k : Nat} (hk : k ≤ 30) {e0 e1 e3 : Option PV} {j : Option PV} {N : Lo → Sto → Prop} {R : PV → Sto → Prop} {B C : Lo → Sto → Prop} {fs : List (Str × Vl)} {acc : List Nat} (hrs : ∀ n ∈ refs fs, n < k) (hacc : ∀ n ∈ acc, n < k) (hnd : acc.Nodup) {x y : Option PV}
    (fin : ∀ x y, N [e0, e1, some (.ref st.length), e3, j, x, y] (sN st (addNew acc (refs fs)))) :
    wO (forGo (.many [5, 6]) (cIf (bAnd (bVal (mApp sIsi (mCons (mVar 6) (mCons (mC (.raw (.ty "tuple"))) mNil)))) (bVal (mBin (sInn true) (mBin sIx (mVar 6) (mC (.int 0))) (mVar 2)))) (cExpr (mAppend (mVar 2) (mBin sIx (mVar 6) (mC (.int 0))))) cNil) (fs.map fpv) [e0, e1, some (.ref st.length), e3, j, x, y] (sN st acc)) N R B C := by
  refine w_forGo (I := fun rem e s => ∃ (fs' : List (Str × Vl)) (acc' : List Nat) (x y : Option PV), rem = fs'.map fpv ∧ e = [e0, e1, some (.ref st.length), e3, j, x, y] ∧ s = sN st acc' ∧ addNew acc' (refs fs') = addNew acc (refs fs) ∧ (∀ n ∈ refs fs', n < k) ∧ (∀ n ∈ acc', n < k) ∧ acc'.Nodup) ?_ ?_ ⟨fs, acc, x, y, rfl, rfl, rfl, rfl, hrs, hacc, hnd⟩
  · rintro z ys e s ⟨fs', acc', x, y, hx, rfl, rfl, he, h1, h2, h3⟩
    cases fs' with
    | nil => cases hx
    | cons p fs' =>
      cases hx
      obtain ⟨q, v⟩ := p
      refine ⟨_, rfl, ?_⟩
      simp only [setMany]
      simp_all_arith! [isi_vl]
      cases v with
      | int i =>
        simp_all_arith! [isRef]
        exact ⟨fs', acc', _, _, rfl, rfl, rfl, he, h1, h2, h3⟩
      | ref n =>
        have e1 : refs ((q, Vl.ref n) :: fs') = n :: refs fs' := rfl
        rw [e1] at he h1
        have hn := h1 n (List.mem_cons_self ..)
        have hlen := len_nodup h3 h2
        have he : addNew (add1 acc' n) (refs fs') = addNew acc (refs fs) := he
        have h1' : ∀ m ∈ refs fs', m < k := fun m hm => h1 m (List.mem_cons_of_mem _ hm)
        simp_all_arith! [isRef, ref_int, ix0s, inM (sN_at st acc') (fun m hm => by have := h2 m hm; omega) (show n < 1000 by omega)]
        by_cases hm : n ∈ acc'
        · rw [show add1 acc' n = acc' from if_pos hm] at he
          simp_all_arith! [decide_eq_true hm]
          exact ⟨fs', acc', _, _, rfl, rfl, rfl, he, h1', h2, h3⟩
        · rw [show add1 acc' n = acc' ++ [n] from if_neg hm] at he
          simp_all_arith! [decide_eq_false hm, mAppend, sN_isl, ref_int, ix0s, sN_app st acc' n (by omega)]
          refine ⟨fs', acc' ++ [n], _, _, rfl, rfl, rfl, he, h1', fun m q => ?_, ?_⟩
          · rcases List.mem_append.mp q with q | q
            · exact h2 m q
            · rw [List.mem_singleton.mp q]; exact hn
          · have := nodup_add1 (n := n) h3
            rwa [show add1 acc' n = acc' ++ [n] from if_neg hm] at this
  · rintro e s ⟨fs', acc', x, y, hx, rfl, rfl, he, h1, h2, h3⟩
    cases fs' with
    | cons n rs' => cases hx
    | nil =>
      have he : acc' = addNew acc (refs fs) := he
      rw [he]
      exact fin x y
end K01
set_option Elab.async false
set_option linter.all false
set_option maxRecDepth 100000
set_option maxHeartbeats 1000000
namespace K01
open PySem PySem.Spec PyProof.Rows L2 Sim Pg
/-! ### what the starts lead to, each with the path by which it is met first -/
instance decMemKey (k : Key) (l : List Key) : Decidable (k ∈ l) := @List.instDecidableMemOfLawfulBEq Key instBEqOfDecidableEq inferInstance k l
theorem nodup_sub {α : Type} [DecidableEq α] : ∀ {l S : List α}, l.Nodup → (∀ a ∈ l, a ∈ S) → l.length ≤ S.length
  | [], _, _, _ => Nat.zero_le _
  | a :: l, S, nd, h => by
    rw [List.nodup_cons] at nd
    have ha := h a List.mem_cons_self
    have := nodup_sub (l := l) (S := S.erase a) nd.2 fun b hb => (List.mem_erase_of_ne (fun (e : b = a) => nd.1 (by rw [← e]; exact hb))).mpr (h b (List.mem_cons_of_mem _ hb))
    rw [List.length_erase_of_mem ha] at this
    have : 0 < S.length := List.length_pos_of_mem ha
    simp only [List.length_cons]
    omega
abbrev PD := List (Key × List Str)
def strsP (p : List Str) : PV := .tup (p.map .str)
def dP (D : PD) : List (Key × PV) := D.map fun d => (d.1, strsP d.2)
def keysP (D : PD) : List PV := D.map fun d => kP d.1
/-- between two turns: S, what can be met -/
structure FI (nx : Key → List (Str × Key)) (S : List Key) (D : PD) : Prop where
  nd : (D.map (·.1)).Nodup
  inS : ∀ d ∈ D, d.1 ∈ S
theorem FI.len {nx : Key → List (Str × Key)} {S : List Key} {D : PD} (h : FI nx S D) : D.length ≤ S.length := by
  have : (D.map (·.1)).length ≤ S.length := nodup_sub h.nd fun k hk => by
    obtain ⟨d, hd, rfl⟩ := List.mem_map.mp hk
    exact h.inS d hd
  rwa [List.length_map] at this
/-! the store while it runs -/
abbrev s1 (st : Sto) (D : PD) : Sto := st ++ [.dct (dP D)]
abbrev s2 (st : Sto) (D : PD) : Sto := st ++ [.dct (dP D), .lst (keysP D)]
end K01
set_option Elab.async false
set_option linter.all false
set_option maxRecDepth 100000
set_option maxHeartbeats 1000000
namespace K01
open PySem PySem.Spec PyProof.Rows L2 Sim Pg
theorem wO_putD {N : Lo → Sto → Prop} {R : PV → Sto → Prop} {B C : Lo → Sto → Prop} {o i v : M} {env : Lo} {st : Sto} : wO (cPutD o i v env st) N R B C = wR (v env st) (fun x s1 => wR (o env s1) (fun y s2 => wR (i env s2) (fun z s3 => wR (sPutD y z x s3) (fun _ s => N env s)))) := by
  unfold cPutD
  cases v env st with
  | ok x s1 =>
    simp only [Res.bind_ok, wR]
    cases o env s1 with
    | ok y s2 =>
      simp only [Res.bind_ok]
      cases i env s2 with
      | ok z s3 => simp only [Res.bind_ok]; cases sPutD y z x s3 <;> rfl
      | _ => rfl
    | _ => rfl
  | _ => rfl
end K01
set_option Elab.async false
set_option linter.all false
set_option maxRecDepth 100000
set_option maxHeartbeats 1000000
namespace K01
open PySem PySem.Spec PyProof.Rows L2 Sim Pg
end K01
set_option Elab.async false
set_option linter.all false
set_option maxRecDepth 100000
set_option maxHeartbeats 1000000
namespace K01
open PySem PySem.Spec PyProof.Rows L2 Sim Pg
/-! ### the ways through a web -/
end K01
set_option Elab.async false
set_option linter.all false
set_option maxRecDepth 100000
set_option maxHeartbeats 1000000
namespace K01
open PySem PySem.Spec PyProof.Rows L2 Sim Pg
/-! the keys are what is met -/
end K01
set_option Elab.async false
set_option linter.all false
set_option maxRecDepth 100000
set_option maxHeartbeats 1000000
namespace K01
open PySem PySem.Spec PyProof.Rows L2 Sim Pg
/-! ### places -/
/-! ### the program's renumbering -/
theorem kind_at {w : Web} {n : Nat} {o : Ob} (ho : w.os[n]? = some o) : kindAt w n = o.kind ∧ fieldsAt w n = o.fs := by simp only [kindAt, fieldsAt, ho, and_self]
theorem low_fields (k : Nat) (l : List (Str × Vl)) : lows k (l.map fpv) = true := by
  induction l with
  | nil => rfl
  | cons p l ih => simp only [List.map_cons, lows, fpv, low, Vl.low, ih, Bool.and_self]
theorem Ob.low (k : Nat) (o : Ob) : Sim.low k o.pv = true := by simp only [Ob.pv, Sim.low, lows, low_fields, Bool.and_self]
theorem Web.low (k : Nat) (w : Web) : Sim.low k w.pv = true := by
  have h1 : ∀ l : List Ob, lows k (l.map Ob.pv) = true := by
    intro l
    induction l with
    | nil => rfl
    | cons p l ih => simp only [List.map_cons, lows, Ob.low, ih, Bool.and_self]
  have h2 : ∀ l : List (Str × Nat), lows k (l.map npv) = true := by
    intro l
    induction l with
    | nil => rfl
    | cons p l ih => simp only [List.map_cons, lows, npv, Sim.low, ih, Bool.and_self]
  simp only [Web.pv, Sim.low, lows, h1, h2, Bool.and_self]
end K01
set_option Elab.async false
set_option linter.all false
set_option maxRecDepth 100000
set_option maxHeartbeats 1000000
namespace K01
open PySem PySem.Spec PyProof.Rows L2 Sim Pg
/-! ### the law's renumbering -/
end K01
set_option Elab.async false
set_option linter.all false
set_option maxRecDepth 100000
set_option maxHeartbeats 1000000
namespace K01
open PySem PySem.Spec PyProof.Rows L2 Sim Pg
end K01
set_option Elab.async false
set_option linter.all false
set_option maxRecDepth 100000
set_option maxHeartbeats 1000000
set_option Elab.async false
set_option linter.all false
set_option maxRecDepth 100000
set_option maxHeartbeats 2000000
namespace K61
open PySem PySem.Spec PyProof.Rows L2 Sim Pg K01
theorem os_of {n : Nat} {o : Ob} (h : o.Ok n) (hn : n ≤ 1000) : OS o where
  kd := h.kd
  f4 := h.f4
  fs := fun p hp => ⟨h.wd p hp, by
    have := h.vl p hp
    cases e : p.2 with
    | int i => rw [e] at this; exact this
    | ref m => rw [e] at this; have : m < n := this; show m ≤ 1000; omega⟩
theorem ns_of {w : Web} (h : w.Ok) : NS w.ns := ⟨h.n1, h.n6, fun p hp => ⟨h.wd p hp, by have := h.lt p hp; have := h.o30; omega⟩⟩
theorem oss_of {w : Web} (h : w.Ok) : ∀ o ∈ w.os, OS o := fun o ho => os_of (h.ob o ho) (by have := h.o30; omega)
theorem read_yesN {w : Web} (h : w.Ok) (st : Sto) : f_read__N [SV (text2 w.ns w.os)] st = .ok w.pv st := by
  have e := read_gen (r := cBad) (q := cRet (mVar 2)) (ns_of h) (oss_of h) (by have := h.o30; omega) (text_3000 (ns_of h) (oss_of h) h.o30) st
  rw [show ((⟨w.os, w.ns⟩ : Web)) = w from rfl, h.is, if_pos rfl] at e
  have g : gc st w.pv st = .ok w.pv st := gc_same (low_web w)
  have e2 : m_read__N [some (SV (text2 w.ns w.os)), none, none, none] st = .rt w.pv st := e
  unfold f_read__N
  simp_arith! [e2, g]
theorem read_yes {w : Web} (h : w.Ok) (st : Sto) : f_read [SV (text2 w.ns w.os)] st = .ok w.pv st := by
  have e := read_gen (r := cRaise "InvalidText") (q := cNox (cRet (mVar 2))) (ns_of h) (oss_of h) (by have := h.o30; omega) (text_3000 (ns_of h) (oss_of h) h.o30) st
  rw [show ((⟨w.os, w.ns⟩ : Web)) = w from rfl, h.is, if_pos rfl] at e
  unfold f_read m_read defX
  refine (congrArg (outX st) e).trans ?_
  have g : gc st w.pv st = .ok w.pv st := gc_same (low_web w)
  show gc st w.pv st = _
  exact g
theorem write_ok {w : Web} (h : w.Ok) (st : Sto) : f_write__N [w.pv] st = .ok (SV (text2 w.ns w.os)) st := by
  have c : f_check_web__N [w.pv] st = .ok .non st := by
    unfold f_check_web__N m_check_web__N
    simp_arith! [is_web_ok h st, gc_same (st := st) (x := .non) rfl]
  have t := text_ok (ns_of h) (oss_of h) (by have := h.o30; omega) st
  have t : f_text_of [w.pv] st = .ok (SV (text2 w.ns w.os)) st := t
  have g : gc st (SV (text2 w.ns w.os)) st = .ok (SV (text2 w.ns w.os)) st := gc_same rfl
  unfold f_write__N m_write__N
  simp_arith! [c, t, g]
end K61
set_option Elab.async false
set_option linter.all false
set_option maxRecDepth 100000
set_option maxHeartbeats 2000000
namespace K61
open PySem PySem.Spec PyProof.Rows L2 Sim Pg K01
/-! ### reading any text -/
def unm : List Nat → List Nat
  | [] => []
  | c :: r => if c = 45 then r else c :: r
def neg45 : List Nat → Bool
  | [] => false
  | c :: _ => decide (c = 45)
def digP (d : List Nat) : Bool := (decide ((1 : Int) ≤ (d.length : Nat)) && decide ((d.length : Int) ≤ 9)) && d.all (fun c => decide (48 ≤ c) && decide (c ≤ 57))
def intP (l : List Nat) : PV := if digP (unm l) then (if neg45 l then .int (-((NumText.digitsVal (unm l) : Nat) : Int)) else .int ((NumText.digitsVal (unm l) : Nat) : Int)) else .non
theorem rm_gen (l : List Nat) : Txt.removeprefix (Z l) (Z [45]) = Z (unm l) := by
  cases l with
  | nil =>
    show Txt.removeprefix (SX.S []) (SX.S [45]) = SX.S []
    rw [StrLaws.removeprefix_eq, if_neg (by
      rw [Bool.and_eq_true, decide_eq_true_eq, SX.S_len, SX.S_len]
      rintro ⟨h, _⟩
      simp at h)]
  | cons c r =>
    by_cases h : c = 45
    · subst h
      exact rm_minus r
    · show _ = Z (if c = 45 then r else c :: r)
      rw [if_neg h]
      exact rm_none h
theorem unm_len (l : List Nat) : (unm l).length ≤ l.length := by
  cases l with
  | nil => exact Nat.le_refl _
  | cons c r =>
    show (if c = 45 then r else c :: r).length ≤ _
    split <;> simp
theorem lc_digs2 {l : List Nat} (hl : l.length ≤ 16777216) (env : Lo) (h3 : ∃ v0 v2, env = [v0, some (SV l), v2]) (st : Sto) : mLc (mIter (mVar 1)) (.one 2) bYes (mChain sLe sLe (mC (.str "0")) (mVar 2) (mC (.str "9"))) [2] env st = .ok (.lst ((Sim.signs (Z l)).map fun x => .bl (decide (48 ≤ sgn x) && decide (sgn x ≤ 57)))) st := by
  obtain ⟨v0, v2, rfl⟩ := h3
  refine lc_all (g := fun x => decide (48 ≤ sgn x) && decide (sgn x ≤ 57)) rfl (fit_signs (by rw [Z_len]; omega)) fun x hx => ?_
  obtain ⟨c, rfl⟩ := mem_signs hx
  simp only [wipeL]
  simp_arith! [c_0, c_9, lex1]
  show _ = Res.ok (PV.bl (decide (48 ≤ c) && decide (c ≤ 57))) st
  congr 2
  rw [Bool.eq_iff_iff]
  simp only [Bool.and_eq_true, Bool.not_eq_true', decide_eq_false_iff_not, decide_eq_true_eq]
  omega
theorem int_in_gen (l : List Nat) (hl : l.length ≤ 1000000) (st : Sto) : f_int_in [SV l] st = .ok (intP l) st := by
  refine w_eq ?_
  unfold f_int_in
  refine w_defM ?_
  unfold m_int_in
  have ul := unm_len l
  have r1 : ∀ s, sRmPre (SV l) (SV [45]) s = .ok (SV (unm l)) s := fun s => by
    have f : decide ((Z l).length ≤ 16777216) = true := by
      rw [Z_len]; exact decide_eq_true (by omega)
    simp only [sRmPre, f, if_true, rm_gen]
  have ls : ∀ s, sLen [SV (unm l)] s = .ok (.int ((unm l).length : Nat)) s := fun s => by
    have := lenS (z := Z (unm l)) (by rw [Z_len]; omega) s
    rw [Z_len] at this
    exact this
  have m9 : ∀ s, sStr [.int 999999999] s = .ok (SV (intC 999999999)) s := fun s => int_shown (by decide) (by decide) s
  have lm : ∀ s, sLen [SV (intC 999999999)] s = .ok (.int 9) s := fun s => by
    have := lenS (z := Z (intC 999999999)) (by rw [Z_len]; have := int_len (i := 999999999) (by decide) (by decide); omega) s
    rw [this, Z_len]
    have : (intC 999999999).length = 9 := by decide +kernel
    rw [this]; rfl
  have lc := fun env h => lc_digs2 (l := unm l) (by omega) env h st
  have al : ∀ s, sAll [.lst ((Sim.signs (Z (unm l))).map fun x => .bl (decide (48 ≤ sgn x) && decide (sgn x ≤ 57)))] s = .ok (.bl ((unm l).all fun c => decide (48 ≤ c) && decide (c ≤ 57))) s := fun s => by
    rw [sall_map (g := fun x => decide (48 ≤ sgn x) && decide (sgn x ≤ 57)), all_signs (Z (unm l)) fun c => decide (48 ≤ c) && decide (c ≤ 57)]
    rfl
  have gn : ∀ s, gc s .non s = .ok .non s := fun s => gc_same (x := .non) rfl
  have gi : ∀ i s, gc s (.int i) s = .ok (.int i) s := fun i s => gc_int s i
  cases h1 : (decide ((1 : Int) ≤ ((unm l).length : Nat)) && decide (((unm l).length : Int) ≤ 9)) with
  | false =>
    have e : intP l = .non := by
      unfold intP digP
      rw [h1]; rfl
    have h1 : decide ((1 : Int) ≤ ((unm l).length : Nat)) = false ∨ decide (((unm l).length : Int) ≤ 9) = false := Bool.and_eq_false_iff.mp h1
    rw [e]
    rcases h1 with h1 | h1
    · simp_all_arith! [mM1, c_minus, r1, ls, m9, lm, h1, v_MOST_INT, gn]
      try exact ⟨trivial, trivial⟩
    · cases h2 : decide ((1 : Int) ≤ ((unm l).length : Nat)) with
      | false =>
        simp_all_arith! [mM1, c_minus, r1, ls, m9, lm, h2, v_MOST_INT, gn]
        try exact ⟨trivial, trivial⟩
      | true =>
        simp_all_arith! [mM1, c_minus, r1, ls, m9, lm, h1, h2, v_MOST_INT, gn]
        try exact ⟨trivial, trivial⟩
  | true =>
    have h2 := Bool.and_eq_true_iff.mp h1
    obtain ⟨ha, hb⟩ := h2
    cases h3 : (unm l).all fun c => decide (48 ≤ c) && decide (c ≤ 57) with
    | false =>
      have e : intP l = .non := by
        unfold intP digP
        rw [h1, h3]; rfl
      rw [e]
      rw [h3] at al
      simp_all_arith! [mM1, c_minus, r1, ls, m9, lm, ha, hb, v_MOST_INT]
      rw [lc _ ⟨_, _, rfl⟩]
      simp_all_arith! [al, gn]
      try exact ⟨trivial, trivial⟩
    | true =>
      rw [h3] at al
      have dg : NumText.AllDigits (unm l) := fun c hc => by
        have := List.all_eq_true.mp h3 c hc
        simpa using this
      have hb' := of_decide_eq_true hb
      have ha' := of_decide_eq_true ha
      have hne : unm l ≠ [] := by
        intro e
        rw [e] at ha'
        simp at ha'
      have it : ∀ s, sIntS [SV l] s = .ok (intP l) s := fun s => by
        have e : ∃ i, PySem.intText? (Z l) = some i ∧ intP l = .int i := by
          unfold intP digP
          rw [h1, h3]
          cases l with
          | nil => exact absurd rfl hne
          | cons c r =>
            by_cases hc : c = 45
            · subst hc
              have e : unm (45 :: r) = r := rfl
              rw [e] at dg hne hb' ⊢
              refine ⟨_, intText_neg (x := Z (45 :: r)) (cs := r) rfl dg hne (by rw [Z_len, List.length_cons]; omega), ?_⟩
              rfl
            · have e : unm (c :: r) = c :: r := if_neg hc
              rw [e] at dg hne hb' ⊢
              refine ⟨_, intText_digits (x := Z (c :: r)) dg hne (by rw [Z_len]; omega), ?_⟩
              have : neg45 (c :: r) = false := decide_eq_false hc
              rw [this]
              rfl
        obtain ⟨i, e1, e2⟩ := e
        have f : decide ((Z l).length ≤ 640) = true := by
          rw [Z_len]
          refine decide_eq_true ?_
          have : l.length ≤ (unm l).length + 1 := by
            cases l with
            | nil => exact Nat.zero_le _
            | cons c r =>
              show (c :: r).length ≤ (if c = 45 then r else c :: r).length + 1
              split <;> simp
          omega
        simp only [sIntS, e1, f, if_true, e2]
      have gz : gc st (intP l) st = .ok (intP l) st := by
        unfold intP
        split
        · split
          · exact gi _ _
          · exact gi _ _
        · exact gn _
      simp_all_arith! [mM1, c_minus, r1, ls, m9, lm, ha, hb, v_MOST_INT]
      rw [lc _ ⟨_, _, rfl⟩]
      simp_all_arith! [al, it, gz]
      try exact ⟨trivial, trivial⟩
end K61
set_option Elab.async false
set_option linter.all false
set_option maxRecDepth 100000
set_option maxHeartbeats 2000000
namespace K61
open PySem PySem.Spec PyProof.Rows L2 Sim Pg K01
theorem par_len (S : List Nat) : ∀ (l acc : List Nat) {p q : List Nat}, TL.par S acc l = some (p, q) → q.length ≤ l.length ∧ p.length ≤ acc.length + l.length
  | [], _, _, _, h => by cases h
  | c :: r, acc, p, q, h => by
    unfold TL.par at h
    split at h
    · obtain ⟨rfl, rfl⟩ := Prod.mk.inj (Option.some.inj h)
      exact ⟨by rw [List.length_drop]; omega, by omega⟩
    · have := par_len S r (acc ++ [c]) h
      rw [List.length_append] at this
      simp only [List.length_cons, List.length_nil] at this ⊢
      omega
theorem spl_lens (S : List Nat) : ∀ (l : List Nat) (k : Nat) (acc : List Nat), (∀ x ∈ TL.spl S k acc l, x.length ≤ acc.length + l.length) ∧ (TL.spl S k acc l).length ≤ l.length + 1 ∧ TL.spl S k acc l ≠ []
  | [], k, acc => by
    rw [TL.spl_nil]
    exact ⟨fun x hx => by rw [List.mem_singleton.mp hx]; omega, by simp, by simp⟩
  | c :: r, 0, acc => by
    unfold TL.spl
    split
    · obtain ⟨a, b, _⟩ := spl_lens S r (S.length - 1) []
      refine ⟨fun x hx => ?_, by rw [List.length_cons, List.length_cons]; omega, by simp⟩
      rcases List.mem_cons.mp hx with rfl | hx
      · omega
      · have := a x hx
        rw [List.length_cons]
        simp only [List.length_nil] at this
        omega
    · obtain ⟨a, b, d⟩ := spl_lens S r 0 (acc ++ [c])
      refine ⟨fun x hx => ?_, by rw [List.length_cons]; omega, d⟩
      have := a x hx
      rw [List.length_append] at this
      simp only [List.length_cons, List.length_nil] at this ⊢
      omega
  | c :: r, k + 1, acc => by
    unfold TL.spl
    obtain ⟨a, b, d⟩ := spl_lens S r k acc
    refine ⟨fun x hx => ?_, by rw [List.length_cons]; omega, d⟩
    have := a x hx
    rw [List.length_cons]
    omega
def cutEq (l : List Nat) : List Nat × List Nat := match TL.par [61] [] l with
  | some (p, q) => (p, q)
  | none => (l, [])
def toldP (k : List Nat) (q : List Nat) : PV := match q with
  | [] => .tup [SV k, intP []]
  | c :: r => if c = 35 then .tup [SV k, .tup [intP r]] else .tup [SV k, intP (c :: r)]
def pairP2 (l : List Nat) : PV := toldP (cutEq l).1 (cutEq l).2
theorem low_int (n : Nat) (l : List Nat) : low n (intP l) = true := by
  unfold intP
  split
  · split <;> rfl
  · rfl
theorem low_told (n : Nat) (k q : List Nat) : low n (toldP k q) = true := by
  have pair : ∀ x, low n x = true → low n (.tup [SV k, x]) = true := fun x hx => by
    unfold low lows
    rw [show low n (SV k) = true from rfl]
    unfold lows
    rw [hx]
    unfold lows
    rfl
  cases q with
  | nil => exact pair _ (low_int n [])
  | cons c r =>
    show low n (if c = 35 then .tup [SV k, .tup [intP r]] else .tup [SV k, intP (c :: r)]) = true
    split
    · refine pair _ ?_
      unfold low lows
      rw [low_int]
      unfold lows
      rfl
    · exact pair _ (low_int n _)
theorem pair_in_gen (l : List Nat) (hl : l.length ≤ 1000000) (st : Sto) : f_pair_in [SV l] st = .ok (pairP2 l) st := by
  refine w_eq ?_
  unfold f_pair_in
  refine w_defM ?_
  unfold m_pair_in
  have ql : (cutEq l).2.length ≤ 1000000 := by
    unfold cutEq
    split
    · rename_i p q h
      have := (par_len _ _ _ h).1
      show q.length ≤ _
      omega
    · exact Nat.zero_le _
  have pt : ∀ s, ∃ m, sPart (SV l) (SV [61]) s = .ok (.wtp [SV (cutEq l).1, m, SV (cutEq l).2]) s := fun s => by
    have f : (decide (1 ≤ (Z [61]).length) && decide ((Z l).length ≤ 16777216)) = true := by
      rw [Z_len, Z_len, Bool.and_eq_true, decide_eq_true_eq, decide_eq_true_eq]
      exact ⟨Nat.le_refl _, by omega⟩
    unfold cutEq
    cases h : TL.par [61] [] l with
    | some x =>
      obtain ⟨p, q⟩ := x
      have e : Txt.partition (Z l) (Z [61]) = (Z p, Z [61], Z q) := SX.partition_some (List.cons_ne_nil _ _) h
      exact ⟨SV [61], by simp only [sPart, f, if_true, e]⟩
    | none =>
      have e : Txt.partition (Z l) (Z [61]) = (Z l, Z [], Z []) := SX.partition_none (List.cons_ne_nil _ _) h
      exact ⟨SV [], by simp only [sPart, f, if_true, e]⟩
  show wO _ _ _ _ _
  rw [wO_seq, wO_setMany]
  obtain ⟨m, pt⟩ := pt st
  have g := gc_same (st := st) (low_told st.length (cutEq l).1 (cutEq l).2)
  unfold pairP2
  generalize (cutEq l).1 = k at pt g ⊢
  generalize (cutEq l).2 = q at pt ql g ⊢
  simp_all_arith! [mM1, c_eq, pt]
  refine ⟨_, rfl, ?_⟩
  have tp1 : ∀ x s, sTup [x] s = .ok (.tup [x]) s := fun _ s => rfl
  have tp2 : ∀ x y s, sTup [x, y] s = .ok (.tup [x, y]) s := fun _ _ s => rfl
  cases q with
  | nil =>
    have st1 : ∀ s, sStarts (SV []) (SV [35]) s = .ok (.bl false) s := fun s => by
      have : Txt.startswith (Z []) (Z [35]) = false := by
        unfold Txt.startswith
        rw [Z_len, Z_len]; rfl
      simp only [sStarts, this]
    have ii := fun s => int_in_gen [] (by simp) s
    have g : gc st (.tup [SV k, intP []]) st = .ok (.tup [SV k, intP []]) st := g
    simp_all_arith! [setMany, mM1, c_ref, st1, ii, tp2, g]
    try (first | exact ⟨rfl, trivial⟩ | exact ⟨trivial, trivial⟩)
  | cons c r =>
    have st1 : ∀ s, sStarts (SV (c :: r)) (SV [35]) s = .ok (.bl (decide (c = 35))) s := fun s => by
      have : Txt.startswith (Z (c :: r)) (Z [35]) = decide (c = 35) := starts_S c 35 r
      simp only [sStarts, this]
    by_cases hc : c = 35
    · subst hc
      have st1 : ∀ s, sStarts (SV (35 :: r)) (SV [35]) s = .ok (.bl true) s := st1
      have sl : ∀ s, sSlcS (SV (35 :: r)) (some 1) none s = .ok (SV r) s := fun s => by
        have f : decide ((Z (35 :: r)).length ≤ 16777216) = true := by rw [Z_len]; exact decide_eq_true (by omega)
        have e : cutS (Z (35 :: r)) (some 1) none = Z r := cutZ [35] r rfl
        simp only [sSlcS, f, if_true, e]
      have ii := fun s => int_in_gen r (by rw [List.length_cons] at ql; omega) s
      have g : gc st (.tup [SV k, .tup [intP r]]) st = .ok (.tup [SV k, .tup [intP r]]) st := g
      simp_all_arith! [setMany, mM1, mSliceS, oSome, oNone, c_ref, st1, sl, ii, tp1, tp2, g]
      try (first | exact ⟨rfl, trivial⟩ | exact ⟨trivial, trivial⟩)
    · rw [decide_eq_false hc] at st1
      have ii := fun s => int_in_gen (c :: r) ql s
      have e : toldP k (c :: r) = .tup [SV k, intP (c :: r)] := if_neg hc
      rw [e] at g ⊢
      simp_all_arith! [setMany, mM1, c_ref, st1, ii, tp2, g]
      try (first | exact ⟨rfl, trivial⟩ | exact ⟨trivial, trivial⟩)
end K61
set_option Elab.async false
set_option linter.all false
set_option maxRecDepth 100000
set_option maxHeartbeats 2000000
namespace K61
open PySem PySem.Spec PyProof.Rows L2 Sim Pg K01
theorem split_gen {c : Nat} (hc : c < 256) (l : List Nat) (hl : l.length ≤ 16777000) (s : Sto) : sSplit (SV l) (SV [c]) s = .ok (.lst ((TL.spl [c] 0 [] l).map SV)) s := by
  have f : (decide (1 ≤ (Z [c]).length) && decide ((Z l).length + 2 ≤ 16777216)) = true := by
    rw [Bool.and_eq_true, decide_eq_true_eq, decide_eq_true_eq, Z_len, Z_len]
    exact ⟨Nat.le_refl _, by omega⟩
  have j : Txt.split (Z l) (Z [c]) = (TL.spl [c] 0 [] l).map Z := SX.split_S (a := l) (b := [c]) (List.cons_ne_nil _ _) (by simp [hc])
  simp only [sSplit, f, if_true, j, List.map_map]
  rfl
theorem low_pair (n : Nat) (l : List Nat) : low n (pairP2 l) = true := low_told n _ _
theorem pairs_in_gen (fs : List (List Nat)) (h : ∀ x ∈ fs, x.length ≤ 1000000) (hl : fs.length ≤ 1000000) (st : Sto) : f_pairs_in [.lst (fs.map SV)] st = .ok (.tup (fs.map pairP2)) st := by
  refine w_eq ?_
  unfold f_pairs_in
  refine w_defM ?_
  unfold m_pairs_in
  have fl : fitL (fs.map SV) = true := by unfold fitL; rw [List.length_map]; exact decide_eq_true (by omega)
  have it : ∀ (xs : List PV) s, sIter (.lst xs) s = .ok xs s := fun _ _ => rfl
  have lc : lcGo (.one 1) bYes (mApp (fnN 1 f_pair_in) (mCons (mVar 1) mNil)) (wipeL [some (.lst (fs.map SV)), none] [1]) (fs.map SV) st = .ok (fs.map pairP2) st := by
    refine lcGo_rel SV pairP2 fs fun p hp => ⟨_, rfl, ?_⟩
    have := pair_in_gen p (h p hp) st
    simp only [wipeL]
    simp_arith! [this, Res.only]
  have tu : ∀ s, sTuple [.lst (fs.map pairP2)] s = .ok (.tup (fs.map pairP2)) s := fun s => by
    simp only [sTuple, asL]
  have g : gc st (.tup (fs.map pairP2)) st = .ok (.tup (fs.map pairP2)) st := gc_same (by unfold low; exact lows_map (low_pair _) _)
  unfold mLc
  simp_all_arith! [it, fl, lc, tu, g]
  try exact ⟨trivial, trivial⟩
def objP2 (l : List Nat) : PV := match TL.spl [32] 0 [] l with
  | [] => .non
  | k :: fs => .tup [SV k, .tup (fs.map pairP2)]
theorem low_obj2 (n : Nat) (l : List Nat) : low n (objP2 l) = true := by
  unfold objP2
  split
  · rfl
  · rename_i k fs _
    have : low n (.tup (fs.map pairP2)) = true := by unfold low; exact lows_map (low_pair n) _
    unfold low lows
    rw [show low n (SV k) = true from rfl]
    unfold lows
    rw [this]
    unfold lows
    rfl
theorem object_in_gen (l : List Nat) (hl : l.length ≤ 100000) (st : Sto) : f_object_in [SV l] st = .ok (objP2 l) st := by
  refine w_eq ?_
  unfold f_object_in
  refine w_defM ?_
  unfold m_object_in
  obtain ⟨h1, h2, h3⟩ := spl_lens [32] l 0 []
  have sp := fun s => split_gen (c := 32) (by decide) l (by omega) s
  have g := gc_same (st := st) (low_obj2 st.length l)
  unfold objP2 at g ⊢
  generalize TL.spl [32] 0 [] l = parts at h1 h2 h3 sp g ⊢
  match parts, h1, h2, h3, sp, g with
  | k :: fs, h1, h2, h3, sp, g =>
    have ix : ∀ s, sIx (.lst (SV k :: fs.map SV)) (.int 0) s = .ok (SV k) s := fun s => ixl0 _ _ s
    have sl : ∀ s, sSlice (.lst (SV k :: fs.map SV)) (some 1) none s = .ok (.lst (fs.map SV)) s := fun s => slice_one _ _ s
    have pi : ∀ s, f_pairs_in [.lst (fs.map SV)] s = .ok (.tup (fs.map pairP2)) s := fun s => pairs_in_gen fs (fun x hx => by
      have := h1 x (List.mem_cons_of_mem _ hx)
      simp only [List.length_nil] at this
      omega) (by rw [List.length_cons] at h2; omega) s
    have tp : ∀ s, sTup [SV k, .tup (fs.map pairP2)] s = .ok (.tup [SV k, .tup (fs.map pairP2)]) s := fun s => rfl
    have g : gc st (.tup [SV k, .tup (fs.map pairP2)]) st = .ok (.tup [SV k, .tup (fs.map pairP2)]) st := g
    have sp : ∀ s, sSplit (SV l) (SV [32]) s = .ok (.lst (SV k :: fs.map SV)) s := sp
    simp_all_arith! [mM1, c_sp, sp, ix, mSlice, oSome, oNone, sl, pi, tp, g]
    try exact ⟨trivial, trivial⟩
def webX (t : List Nat) : PV := match TL.spl [10] 0 [] t with
  | [] => .non
  | f :: rows => .tup [.tup (rows.map objP2), .tup ((TL.spl [32] 0 [] f).map pairP2)]
end K61
set_option Elab.async false
set_option linter.all false
set_option maxRecDepth 100000
set_option maxHeartbeats 2000000
namespace K61
open PySem PySem.Spec PyProof.Rows L2 Sim Pg K01
theorem spl_mem (S : List Nat) : ∀ (l : List Nat) (k : Nat) (acc : List Nat) (x : List Nat) (c : Nat), x ∈ TL.spl S k acc l → c ∈ x → c ∈ acc ∨ c ∈ l
  | [], k, acc, x, c, hx, hc => by
    rw [TL.spl_nil, List.mem_singleton] at hx
    exact .inl (hx ▸ hc)
  | d :: r, 0, acc, x, c, hx, hc => by
    unfold TL.spl at hx
    split at hx
    · rcases List.mem_cons.mp hx with rfl | hx
      · exact .inl hc
      · rcases spl_mem S r _ _ x c hx hc with h | h
        · cases h
        · exact .inr (List.mem_cons_of_mem _ h)
    · rcases spl_mem S r _ _ x c hx hc with h | h
      · rcases List.mem_append.mp h with h | h
        · exact .inl h
        · exact .inr (List.mem_singleton.mp h ▸ List.mem_cons_self ..)
      · exact .inr (List.mem_cons_of_mem _ h)
  | d :: r, k + 1, acc, x, c, hx, hc => by
    unfold TL.spl at hx
    rcases spl_mem S r _ _ x c hx hc with h | h
    · exact .inl h
    · exact .inr (List.mem_cons_of_mem _ h)
def Asc (l : List Nat) : Prop := ∀ c ∈ l, c < 128
theorem plain_S {l : List Nat} (h : Asc l) : plainP (SV l) = true := by
  have e : toD (SV l) = some (.str (Z l)) := rfl
  unfold plainP
  rw [e]
  show SeqAt.shaped (.str (Z l)) = true
  unfold SeqAt.shaped
  rw [Bool.and_eq_true, decide_eq_true_eq]
  refine ⟨?_, by simp only [PyData.depth]; omega⟩
  show (l.toArray).all (fun c => decide (c < 0x110000)) = true
  rw [List.all_toArray, List.all_eq_true]
  intro c hc
  have := h c hc
  exact decide_eq_true (by omega)
theorem dt_SV {l : List Nat} (h : l.length ≤ 3000) : dt (SV l) = true := by
  unfold dt
  rw [Z_len]
  exact decide_eq_true (by omega)
theorem dt_int (l : List Nat) : dt (intP l) = true := by
  unfold intP
  split
  · split <;> rfl
  · rfl
theorem dt_one {x : PV} (h : dt x = true) : dt (.tup [x]) = true := by
  unfold dt dts
  rw [h]
  unfold dts
  rfl
theorem dt_told {k : List Nat} (q : List Nat) (h : k.length ≤ 3000) : dt (toldP k q) = true := by
  cases q with
  | nil => exact dt_pair (dt_SV h) (dt_int [])
  | cons c r =>
    show dt (if c = 35 then .tup [SV k, .tup [intP r]] else .tup [SV k, intP (c :: r)]) = true
    split
    · exact dt_pair (dt_SV h) (dt_one (dt_int r))
    · exact dt_pair (dt_SV h) (dt_int _)
theorem dt_pair2 {l : List Nat} (h : l.length ≤ 3000) : dt (pairP2 l) = true := by
  refine dt_told _ ?_
  unfold cutEq
  split
  · rename_i p q e
    have := (par_len _ _ _ e).2
    simp only [List.length_nil] at this
    show p.length ≤ _
    omega
  · exact h
theorem dt_tups {l : List (List Nat)} {f : List Nat → PV} (h : ∀ x ∈ l, dt (f x) = true) (hl : l.length ≤ 10000) : dt (.tup (l.map f)) = true := by
  unfold dt
  rw [dts_map h]
  unfold fitL
  rw [List.length_map, decide_eq_true (by omega)]
  rfl
theorem dt_obj2 {l : List Nat} (h : l.length ≤ 3000) : dt (objP2 l) = true := by
  obtain ⟨h1, h2, h3⟩ := spl_lens [32] l 0 []
  unfold objP2
  generalize TL.spl [32] 0 [] l = parts at h1 h2 h3 ⊢
  match parts, h1, h2 with
  | [], _, _ => rfl
  | k :: fs, h1, h2 =>
    simp only [List.length_nil, Nat.zero_add] at h1
    rw [List.length_cons] at h2
    exact dt_pair (dt_SV (by have := h1 k (List.mem_cons_self ..); omega)) (dt_tups (fun x hx => dt_pair2 (by have := h1 x (List.mem_cons_of_mem _ hx); omega)) (by omega))
theorem dt_webX {t : List Nat} (h : t.length ≤ 3000) : dt (webX t) = true := by
  obtain ⟨h1, h2, h3⟩ := spl_lens [10] t 0 []
  unfold webX
  generalize TL.spl [10] 0 [] t = parts at h1 h2 h3 ⊢
  match parts, h1, h2 with
  | [], _, _ => rfl
  | f :: rows, h1, h2 =>
    simp only [List.length_nil, Nat.zero_add] at h1
    rw [List.length_cons] at h2
    have hf := h1 f (List.mem_cons_self ..)
    obtain ⟨g1, g2, g3⟩ := spl_lens [32] f 0 []
    simp only [List.length_nil, Nat.zero_add] at g1
    exact dt_pair (dt_tups (fun x hx => dt_obj2 (by have := h1 x (List.mem_cons_of_mem _ hx); omega)) (by omega)) (dt_tups (fun x hx => dt_pair2 (by have := g1 x hx; omega)) (by omega))
theorem kinds_webX {t : List Nat} (h : Asc t) : kindsOk (webX t) = true := by
  have hm := spl_mem [10] t 0 []
  unfold webX
  generalize TL.spl [10] 0 [] t = parts at hm ⊢
  match parts, hm with
  | [], _ => rfl
  | f :: rows, hm =>
    show (rows.map objP2).all _ = true
    rw [List.all_eq_true]
    intro x hx
    obtain ⟨l, hl, rfl⟩ := List.mem_map.mp hx
    have ha : Asc l := fun c hc => (hm l c (List.mem_cons_of_mem _ hl) hc).elim (fun h => nomatch h) (h c)
    have hm2 := spl_mem [32] l 0 []
    unfold objP2
    generalize TL.spl [32] 0 [] l = ps at hm2 ⊢
    match ps, hm2 with
    | [], _ => rfl
    | k :: fs, hm2 => exact plain_S fun c hc => (hm2 k c (List.mem_cons_self ..) hc).elim (fun h => nomatch h) (ha c)
/-! ### the whole of reading -/
def valX : PV → List Nat
  | .int i => intC i
  | .tup [.int i] => 35 :: intC i
  | _ => []
def fieldX : PV → List Nat
  | .tup [.str k, v] => TL.tl k ++ 61 :: valX v
  | _ => []
def rowX : PV → List Nat
  | .tup [.str k, .tup fs] => TL.joinL [32] (TL.tl k :: fs.map fieldX)
  | _ => []
def textX : PV → List Nat
  | .tup [.tup os, .tup ns] => TL.joinL [10] (TL.joinL [32] (ns.map fieldX) :: os.map rowX)
  | _ => []
theorem intC_nat (n : Nat) : intC (n : Nat) = TL.numL n := by
  unfold intC
  rw [if_neg (by omega)]; rfl
theorem fieldX_ok (p : Str × Vl) : fieldX (fpv p) = fieldC p := by
  obtain ⟨k, v⟩ := p
  cases v with
  | int i => rfl
  | ref n =>
    show TL.tl k ++ 61 :: 35 :: intC (n : Nat) = _
    rw [intC_nat]; rfl
theorem textX_ok (w : Web) : textX w.pv = text2 w.ns w.os := by
  show TL.joinL [10] (TL.joinL [32] ((w.ns.map npv).map fieldX) :: (w.os.map Ob.pv).map rowX) = _
  have a : (w.ns.map npv).map fieldX = (w.ns.map nf).map fieldC := by
    rw [npv_nf, List.map_map]
    exact List.map_congr_left fun p _ => fieldX_ok p
  have b : (w.os.map Ob.pv).map rowX = w.os.map rowC := by
    rw [List.map_map]
    refine List.map_congr_left fun o _ => ?_
    show TL.joinL [32] (TL.tl o.kind :: (o.fs.map fpv).map fieldX) = _
    rw [List.map_map, show (fieldX ∘ fpv) = fieldC from funext fieldX_ok]
    rfl
  rw [a, b]
  rfl
def rdP (t : List Nat) : Bool := decide (t.length ≤ 3000) && (webP (webX t) && decide (textX (webX t) = t))
end K61
set_option Elab.async false
set_option linter.all false
set_option maxRecDepth 100000
set_option maxHeartbeats 2000000
namespace K61
open PySem PySem.Spec PyProof.Rows L2 Sim Pg K01
theorem lines_gen {t : List Nat} (h : t.length ≤ 3000) (v0 v2 v3 : Option PV) (st : Sto) : mApp sTup (mCons (mApp sTuple (mCons (mLc (mIter (mSlice (mVar 1) (oSome (mC (.int 1))) oNone)) (.one 3) bYes (mApp (fnN 1 f_object_in) (mCons (mVar 3) mNil)) [3]) mNil)) (mCons (mApp (fnN 1 f_pairs_in) (mCons (mM1 sSplit (mBin sIx (mVar 1) (mC (.int 0))) (mC (.str " "))) mNil)) mNil)) [v0, some (.lst ((TL.spl [10] 0 [] t).map SV)), v2, v3] st = .ok (webX t) st := by
  obtain ⟨h1, h2, h3⟩ := spl_lens [10] t 0 []
  unfold webX
  generalize TL.spl [10] 0 [] t = parts at h1 h2 h3 ⊢
  match parts, h1, h2, h3 with
  | f :: rows, h1, h2, h3 =>
    simp only [List.length_nil, Nat.zero_add] at h1
    rw [List.length_cons] at h2
    have hf := h1 f (List.mem_cons_self ..)
    obtain ⟨g1, g2, g3⟩ := spl_lens [32] f 0 []
    simp only [List.length_nil, Nat.zero_add] at g1
    have fl : fitL (rows.map SV) = true := by unfold fitL; rw [List.length_map]; exact decide_eq_true (by omega)
    have sl : ∀ s, sSlice (.lst (SV f :: rows.map SV)) (some 1) none s = .ok (.lst (rows.map SV)) s := fun s => slice_one _ _ s
    have ix : ∀ s, sIx (.lst (SV f :: rows.map SV)) (.int 0) s = .ok (SV f) s := fun s => ixl0 _ _ s
    have it : ∀ (xs : List PV) s, sIter (.lst xs) s = .ok xs s := fun _ _ => rfl
    have lc : lcGo (.one 3) bYes (mApp (fnN 1 f_object_in) (mCons (mVar 3) mNil)) (wipeL [v0, some (.lst (SV f :: rows.map SV)), v2, v3] [3]) (rows.map SV) st = .ok (rows.map objP2) st := by
      refine lcGo_rel SV objP2 rows fun o ho => ⟨_, rfl, ?_⟩
      have := object_in_gen o (by have := h1 o (List.mem_cons_of_mem _ ho); omega) st
      simp only [wipeL]
      simp_arith! [this, Res.only]
    have tu : ∀ s, sTuple [.lst (rows.map objP2)] s = .ok (.tup (rows.map objP2)) s := fun s => by
      simp only [sTuple, asL]
    have fs := fun s => split_gen (c := 32) (by decide) f (by omega) s
    have pi : ∀ s, f_pairs_in [.lst ((TL.spl [32] 0 [] f).map SV)] s = .ok (.tup ((TL.spl [32] 0 [] f).map pairP2)) s := fun s => pairs_in_gen _ (fun x hx => by have := g1 x hx; omega) (by omega) s
    have tp : ∀ x y s, sTup [x, y] s = .ok (.tup [x, y]) s := fun _ _ s => rfl
    show mApp sTup _ [v0, some (.lst (SV f :: rows.map SV)), v2, v3] st = _
    unfold mLc
    simp_arith! [mSlice, oSome, oNone, mM1, c_sp, sl, ix, it, fl, lc, tu, fs, pi, tp, Res.only]
theorem read_total {t : List Nat} (ha : Asc t) (hl : t.length ≤ 16777000) (st : Sto) : f_read [SV t] st = if rdP t then .ok (webX t) st else .exc "InvalidText" [] st := by
  have gn : gc st .non st = .ok .non st := gc_same (x := .non) rfl
  have is : sIsi [SV t, .raw (.ty "str")] st = .ok (.bl true) st := isi_str (x := SV t) rfl st
  have ln : ∀ s, sLen [SV t] s = .ok (.int (t.length : Nat)) s := fun s => by
    have := lenS (z := Z t) (by rw [Z_len]; omega) s
    rw [Z_len] at this
    exact this
  by_cases h3 : t.length ≤ 3000
  · have gt : decide ((3000 : Int) < (t.length : Nat)) = false := decide_eq_false (by omega)
    have sp : ∀ s, sSplit (SV t) (SV [10]) s = .ok (.lst ((TL.spl [10] 0 [] t).map SV)) s := fun s => split_gen (by decide) t hl s
    have iw := f_is_web_ok (dt_webX h3) (kinds_webX ha) st
    have li := lines_gen h3 (some (SV t)) none none st
    have s1 : (cIf (bOr (bNot (bVal (mApp sIsi (mCons (mVar 0) (mCons (mC (.raw (.ty "str"))) mNil))))) (bVal (mBin sGt (mApp sLen (mCons (mVar 0) mNil)) (mC v_MOST_SIGNS)))) (cRaise "InvalidText") cNil) [some (SV t), none, none, none] st = .nx [some (SV t), none, none, none] st := by
      simp_arith! [is, ln, gt, v_MOST_SIGNS]
    have s2 : (cSet (.one 1) (mM1 sSplit (mVar 0) (mC (.str "\n")))) [some (SV t), none, none, none] st = .nx [some (SV t), some (.lst ((TL.spl [10] 0 [] t).map SV)), none, none] st := by
      simp_arith! [mM1, c_nl, sp]
    unfold f_read m_read defX
    show outX st (cSeq _ _ [some (SV t), none, none, none] st) = _
    rw [seq_nx' s1, seq_nx' s2, seq_nx' (e := [some (SV t), some (.lst ((TL.spl [10] 0 [] t).map SV)), some (webX t), none]) (s := st) (by
      unfold cSet
      rw [li]
      rfl)]
    cases hw : webP (webX t) with
    | false =>
      have e : rdP t = false := by unfold rdP; rw [hw, Bool.false_and, Bool.and_false]
      rw [e, if_neg (by decide)]
      rw [hw] at iw
      have c : cIf (bOr (bNot (bVal (mApp (fnN 1 f_is_web) (mCons (mVar 2) mNil)))) (bVal (mBin sNe (mApp (fnN 1 f_text_of) (mCons (mVar 2) mNil)) (mVar 0)))) (cRaise "InvalidText") cNil [some (SV t), some (.lst ((TL.spl [10] 0 [] t).map SV)), some (webX t), none] st = .exc "InvalidText" [] st := by
        simp_arith! [iw, cRaise]
      unfold cSeq
      rw [c]
      show (match gc st .non st with | .ok _ s' => Res.exc "InvalidText" [] s' | _ => .bad) = _
      rw [gn]
    | true =>
      obtain ⟨w, ew, hW⟩ := web_of hw
      rw [hw] at iw
      have tx : ∀ s, f_text_of [webX t] s = .ok (SV (textX (webX t))) s := fun s => by
        rw [ew, textX_ok]
        exact text_ok (ns_of hW) (oss_of hW) (by have := hW.o30; omega) s
      have ne : ∀ s, sNe (SV (textX (webX t))) (SV t) s = .ok (.bl (!decide (textX (webX t) = t))) s := fun s => by
        have : flatEq (SV (textX (webX t))) (SV t) = some (decide (Z (textX (webX t)) = Z t)) := by simp [flatEq]
        simp only [sEqn, this]
        show Res.ok (PV.bl (!decide (Z (textX (webX t)) = Z t))) s = _
        congr 3
        rw [decide_eq_decide]
        exact ⟨fun e => congrArg TL.tl e, fun e => by rw [e]⟩
      have l3 : decide (t.length ≤ 3000) = true := decide_eq_true h3
      cases ht : decide (textX (webX t) = t) with
      | false =>
        have e : rdP t = false := by unfold rdP; rw [hw, ht, Bool.and_false, Bool.and_false]
        rw [e, if_neg (by decide)]
        rw [ht] at ne
        have c : cIf (bOr (bNot (bVal (mApp (fnN 1 f_is_web) (mCons (mVar 2) mNil)))) (bVal (mBin sNe (mApp (fnN 1 f_text_of) (mCons (mVar 2) mNil)) (mVar 0)))) (cRaise "InvalidText") cNil [some (SV t), some (.lst ((TL.spl [10] 0 [] t).map SV)), some (webX t), none] st = .exc "InvalidText" [] st := by
          simp_arith! [iw, tx, ne, cRaise]
        unfold cSeq
        rw [c]
        show (match gc st .non st with | .ok _ s' => Res.exc "InvalidText" [] s' | _ => .bad) = _
        rw [gn]
      | true =>
        have e : rdP t = true := by unfold rdP; rw [hw, ht, l3]; rfl
        rw [e, if_pos rfl]
        rw [ht] at ne
        have c : cIf (bOr (bNot (bVal (mApp (fnN 1 f_is_web) (mCons (mVar 2) mNil)))) (bVal (mBin sNe (mApp (fnN 1 f_text_of) (mCons (mVar 2) mNil)) (mVar 0)))) (cRaise "InvalidText") cNil [some (SV t), some (.lst ((TL.spl [10] 0 [] t).map SV)), some (webX t), none] st = .nx [some (SV t), some (.lst ((TL.spl [10] 0 [] t).map SV)), some (webX t), none] st := by
          simp_arith! [iw, tx, ne]
        rw [seq_nx' c]
        have g : gc st (webX t) st = .ok (webX t) st := gc_same (by rw [ew]; exact low_web w)
        show gc st (webX t) st = _
        exact g
  · have gt : decide ((3000 : Int) < (t.length : Nat)) = true := decide_eq_true (by omega)
    have e : rdP t = false := by unfold rdP; rw [decide_eq_false h3, Bool.false_and]
    rw [e, if_neg (by decide)]
    unfold f_read m_read defX
    simp_arith! [is, ln, gt, v_MOST_SIGNS, cRaise, outX, gn]
/-! what is read is a web, and its text is the text -/
theorem rd_web {t : List Nat} (h : rdP t = true) : ∃ w : Web, webX t = w.pv ∧ w.Ok ∧ text2 w.ns w.os = t := by
  unfold rdP at h
  simp only [Bool.and_eq_true, decide_eq_true_eq] at h
  obtain ⟨w, e, hw⟩ := web_of h.2.1
  refine ⟨w, e, hw, ?_⟩
  have := h.2.2
  rw [e, textX_ok] at this
  exact this
theorem rd_of {w : Web} (h : w.Ok) (ha : Asc (text2 w.ns w.os)) : rdP (text2 w.ns w.os) = true := by
  cases e : rdP (text2 w.ns w.os) with
  | true => rfl
  | false =>
    have a := read_total ha (by have := text_3000 (ns_of h) (oss_of h) h.o30; omega) []
    rw [e, if_neg (by decide), read_yes h []] at a
    cases a
end K61
set_option Elab.async false
set_option linter.all false
set_option maxRecDepth 100000
set_option maxHeartbeats 1000000
namespace K01
open PySem PySem.Spec PyProof.Rows L2 Sim Pg
/-! ### the webs of the laws from 50 on -/
theorem take_app {st s1 t : Sto} {k : Nat} {n : Int} (u : Up k st s1) (hk : Dr k st) (h0 : 0 < n) (h1 : n < 10000000000) :
    wR (f__law_take [.ref k, .int n] (s1 ++ t)) (fun v s => ∃ (d : Int) (s2 : Sto), v = .int d ∧ 0 ≤ d ∧ d < n ∧ s = s2 ++ t ∧ Up k st s2) := by
  have dr : Dr k s1 := u.dr hk.lt
  refine (take_w (dr.app (t := t)) h0 h1).imp ?_
  rintro v s ⟨d, rfl, q1, q2, q3⟩
  obtain ⟨s2, q4, rfl⟩ := q3.split dr.lt
  exact ⟨d, s2, rfl, q1, q2, rfl, u.trans q4⟩
/-- a comprehension with a guard that draws -/
theorem w_lcGo_sub {t : Tgt} {c : MB} {m : M} {env0 : Lo} {Q : List PV → Sto → Prop} (g : PV → PV) (I : Sto → Prop) : ∀ {xs : List PV} {s : Sto},
    (∀ x ∈ xs, ∀ s, I s → ∃ e, t.run x env0 = some e ∧ wR (c e s) (fun b s1 => I s1 ∧ (b = true → wR (m e s1) (fun y s2 => y = g x ∧ I s2)))) → (∀ ys s2, List.Sublist ys (xs.map g) → I s2 → Q ys s2) → I s → wR (lcGo t c m env0 xs s) Q
  | [], s, _, q, h => q [] s (List.Sublist.refl _) h
  | x :: xs, s, st, q, h => by
    obtain ⟨e, r, w⟩ := st x (List.mem_cons_self ..) s h
    obtain ⟨b, s1, e2, h1, hb⟩ := w.get
    simp only [lcGo, r, e2, Res.only, Res.bind_ok]
    cases b with
    | false =>
      simp only [Bool.false_eq_true, if_false]
      exact w_lcGo_sub g I (fun z hz => st z (List.mem_cons_of_mem _ hz)) (fun ys s2 hl hi => q ys s2 (hl.cons _) hi) h1
    | true =>
      simp only [if_true]
      obtain ⟨y, s2, e3, rfl, hi⟩ := (hb rfl).get
      rw [e3]
      simp only [Res.only, Res.bind_ok]
      rw [wR_bind]
      exact w_lcGo_sub g I (fun z hz => st z (List.mem_cons_of_mem _ hz)) (fun ys s3 hl hi3 => q (g x :: ys) s3 (by rw [List.map_cons]; exact hl.cons_cons _) hi3) hi
def wordsF : List Str := ["a", "f", "fg", "longname"]
theorem wordsF_up : wordsF.Pairwise ltS := up_pw.mp (by decide +kernel)
theorem wordsF_wd : ∀ z ∈ wordsF, Wd z := by
  have : wordsF.all (fun z => wordP (.str z)) = true := by decide +kernel
  exact fun z hz => List.all_eq_true.mp this z hz
def words50 : List Str := ["a", "ab", "b", "f", "namename", "y"]
theorem words50_up : words50.Pairwise ltS := up_pw.mp (by decide +kernel)
theorem words50_wd : ∀ z ∈ words50, Wd z := by
  have : words50.all (fun z => wordP (.str z)) = true := by decide +kernel
  exact fun z hz => List.all_eq_true.mp this z hz
/-- fields as they are drawn -/
structure FsOk (n : Nat) (fs : List (Str × Vl)) : Prop where
  sub : List.Sublist (fs.map (·.1)) wordsF
  vl : ∀ p ∈ fs, p.2.Ok n
theorem sublist_wd {l : List Str} (h : List.Sublist l wordsF) : ∀ z ∈ l, Wd z := fun z hz => wordsF_wd z (h.subset hz)
theorem FsOk.ob {n : Nat} {fs : List (Str × Vl)} (h : FsOk n fs) {k : Str} (hk : k = "open" ∨ k = "frozen") : Ob.Ok n ⟨k, fs⟩ := by
  refine ⟨hk, ?_, wordsF_up.sublist h.sub, fun p hp => sublist_wd h.sub _ (List.mem_map.mpr ⟨p, hp, rfl⟩), h.vl⟩
  have := h.sub.length_le
  rw [List.length_map] at this
  exact this
theorem map_str_sub {ys : List PV} {l : List Str} (h : List.Sublist ys (l.map .str)) : ∃ zs, ys = zs.map .str ∧ List.Sublist zs l := by
  obtain ⟨zs, h1, rfl⟩ := List.sublist_map_iff.mp h
  exact ⟨zs, rfl, h1⟩
theorem lows_fpv (k : Nat) (l : List (Str × Vl)) : lows k (l.map fpv) = true := by
  induction l with
  | nil => rfl
  | cons p l ih =>
    obtain ⟨z, v⟩ := p
    cases v <;> simp only [List.map_cons, lows, fpv, low, Vl.pv, ih, Bool.and_self]
theorem fields2_w {st : Sto} {k n : Nat} (hk : Dr k st) (h0 : 0 < n) (h1 : n ≤ 1000) : wR (f__law_fields_2 [.ref k, .int (n : Nat)] st) (fun v s => ∃ fs, v = .tup (fs.map fpv) ∧ FsOk n fs ∧ Up k st s) := by
  unfold f__law_fields_2
  refine w_defM ?_
  unfold m__law_fields_2
  have e4 : ∀ (a b c d : PV) (s : Sto), sLstF [a, b, c, d] s = .ok (.lst [a, b, c, d]) s := fun _ _ _ _ _ => rfl
  -- the words
  refine w_cut (M := fun e s => ∃ ws, e = [some (.ref k), some (.int (n : Nat)), some (.lst (ws.map .str)), none, none, none] ∧ List.Sublist ws wordsF ∧ Up k st s) ?_ ?_
  · have ft : fitL [PV.str "a", .str "f", .str "fg", .str "longname"] = true := rfl
    simp_all_arith! [mLc, e4, ft, wipeL]
    refine w_lcGo_sub (g := fun x => x) (I := fun s => Up k st s) ?_ ?_ hk.up
    · intro x hx s u
      refine ⟨_, rfl, ?_⟩
      simp_all_arith! [Sim.wR_ok]
      refine (take_w (u.dr hk.lt) (by decide) (by decide)).imp ?_
      rintro v s2 ⟨d, rfl, _, _, q⟩
      simp_all_arith! [Sim.wR_ok]
      exact ⟨u.trans q, fun _ => ⟨trivial, u.trans q⟩⟩
    · intro ys s2 hl u
      rw [List.map_id'] at hl
      have hl : List.Sublist ys (wordsF.map .str) := hl
      obtain ⟨ws, rfl, hw⟩ := map_str_sub hl
      exact ⟨ws, rfl, hw, u⟩
  · rintro e s ⟨ws, rfl, hw, u⟩
    have hls := u.len
    have m0 : sLstM [] s = .ok (.ref s.length) (s ++ [.lst []]) := rfl
    simp_all_arith! [m0]
    rw [hls]
    -- the values
    refine w_forGo (I := fun rem e s => ∃ (rs : List Str) (fs : List (Str × Vl)) (s1 : Sto) (x4 x5 : Option PV), rem = rs.map .str ∧ e = [some (.ref k), some (.int (n : Nat)), some (.lst (ws.map .str)), some (.ref st.length), x4, x5] ∧ s = s1 ++ [.lst (fs.map fpv)] ∧ Up k st s1 ∧ fs.map (·.1) ++ rs = ws ∧ ∀ p ∈ fs, p.2.Ok n) ?_ ?_
      ⟨ws, [], s, none, none, rfl, rfl, rfl, u, rfl, nofun⟩
    · rintro x xs e s ⟨rs, fs, s1, x4, x5, hx, rfl, rfl, u1, hsp, hv⟩
      cases rs with
      | nil => cases hx
      | cons z rs =>
        cases hx
        refine ⟨_, rfl, ?_⟩
        have hl1 := u1.len
        have hfl : fs.length ≤ 4 := by
          have e1 := congrArg List.length hsp
          have e2 := hw.length_le
          have e3 : wordsF.length = 4 := rfl
          simp at e1
          omega
        -- what is appended in the end
        have app : ∀ (v : Vl) (s2 : Sto), Up k st s2 → v.Ok n → wO (cExpr (mAppend (mVar 3) (mApp sTup (mCons (mVar 4) (mCons (mVar 5) mNil)))) [some (.ref k), some (.int (n : Nat)), some (.lst (ws.map .str)), some (.ref st.length), some (.str z), some v.pv] (s2 ++ [.lst (fs.map fpv)]))
            (fun e s => ∃ (rs' : List Str) (fs : List (Str × Vl)) (s1 : Sto) (x4 x5 : Option PV), rs.map PV.str = rs'.map .str ∧ e = [some (.ref k), some (.int (n : Nat)), some (.lst (ws.map .str)), some (.ref st.length), x4, x5] ∧ s = s1 ++ [.lst (fs.map fpv)] ∧ Up k st s1 ∧ fs.map (·.1) ++ rs' = ws ∧ ∀ p ∈ fs, p.2.Ok n)
            (fun v s => wR (gc st v s) fun v s => ∃ fs, v = .tup (fs.map fpv) ∧ FsOk n fs ∧ Up k st s) (fun _ _ => False) (fun _ _ => False) := by
          intro v s2 u2 ok
          have hl2 := u2.len
          have at_ : (s2 ++ [MO.lst (fs.map fpv)])[st.length]? = some (.lst (fs.map fpv)) := by rw [← hl2]; exact get_end s2 _
          have ap : ∀ y : PV, sApp (.ref st.length) y (s2 ++ [.lst (fs.map fpv)]) = .ok .non (s2 ++ [.lst (fs.map fpv ++ [y])]) := fun y => by
            rw [app_ok at_ (by rw [List.length_map]; omega), ← hl2, set_end]
          simp_all_arith! [mAppend, isl_ok at_, sTup2, ap]
          refine ⟨rs, fs ++ [(z, v)], s2, _, _, rfl, rfl, by simp [fpv], u2, by simp [← hsp], fun p hp => ?_⟩
          rcases List.mem_append.mp hp with q | q
          · exact hv p q
          · rw [List.mem_singleton.mp q]; exact ok
        simp_all_arith! [Sim.wR_ok]
        refine (take_app u1 hk (by decide) (by decide)).imp ?_
        rintro _ _ ⟨d, s2, rfl, d0, d1, rfl, u2⟩
        refine (take_app u2 hk (by decide) (by decide)).imp ?_
        rintro _ _ ⟨d2, s3, rfl, q0, q1, rfl, u3⟩
        have eqi : ∀ (a b : Int) (s : Sto), sEq (.int a) (.int b) s = .ok (.bl (decide (a = b))) s := fun a b s => eq_int a b s
        simp only [wO_expr] at app
        simp_all_arith! [eqi]
        by_cases hd : d2 = 0
        · simp_all_arith! [decide_eq_true hd]
          refine (take_app u3 hk (by omega) (by omega)).imp ?_
          rintro _ _ ⟨m, s4, rfl, m0, m1, rfl, u4⟩
          simp_all_arith! [sTup1]
          obtain ⟨j, rfl⟩ := Int.eq_ofNat_of_zero_le m0
          exact app (.ref j) s4 u4 (show j < n by omega)
        · simp_all_arith! [decide_eq_false hd]
          refine (take_app u3 hk (by decide) (by decide)).imp ?_
          rintro _ _ ⟨d4, s4, rfl, _, _, rfl, u4⟩
          simp_all_arith! [eqi]
          by_cases hd4 : d4 = 0
          · have em : ∀ s : Sto, sMul (.int 2) (.int 1000000000) s = .ok (.int 2000000000) s := fun _ => rfl
            have es : ∀ (a b : Int) (s : Sto), sSub (.int a) (.int b) s = .ok (.int (a - b)) s := fun _ _ _ => rfl
            have e1 : (2000000000 : Int) - 1 = 1999999999 := rfl
            simp_all_arith! [decide_eq_true hd4, pow9, em, es, e1]
            refine (take_app u4 hk (by decide) (by decide)).imp ?_
            rintro _ _ ⟨m, s5, rfl, m0, m1, rfl, u5⟩
            simp_all_arith! [es]
            exact app (.int (m - 999999999)) s5 u5 (show _ ∧ _ from ⟨by omega, by omega⟩)
          · simp_all_arith! [decide_eq_false hd4]
            exact app (.int d) s4 u4 (show _ ∧ _ from ⟨by omega, by omega⟩)
    · rintro e s ⟨rs, fs, s1, x4, x5, hx, rfl, rfl, u1, hsp, hv⟩
      cases rs with
      | cons z rs => cases hx
      | nil =>
        have hl1 := u1.len
        have at_ : (s1 ++ [MO.lst (fs.map fpv)])[st.length]? = some (.lst (fs.map fpv)) := by rw [← hl1]; exact get_end s1 _
        simp_all_arith! [tupM at_]
        rw [gc_up u1 (by simp only [low]; exact lows_fpv _ _)]
        exact ⟨fs, rfl, ⟨by rw [List.append_nil] at hsp; rw [hsp]; exact hw, hv⟩, u1⟩
end K01
set_option Elab.async false
set_option linter.all false
set_option maxRecDepth 100000
set_option maxHeartbeats 1000000
namespace K01
open PySem PySem.Spec PyProof.Rows L2 Sim Pg
theorem fields2_app {st s1 t : Sto} {k n : Nat} (u : Up k st s1) (hk : Dr k st) (h0 : 0 < n) (h1 : n ≤ 1000) :
    wR (f__law_fields_2 [.ref k, .int (n : Nat)] (s1 ++ t)) (fun v s => ∃ fs s2, v = .tup (fs.map fpv) ∧ FsOk n fs ∧ s = s2 ++ t ∧ Up k st s2) := by
  have dr : Dr k s1 := u.dr hk.lt
  refine (fields2_w (dr.app (t := t)) h0 h1).imp ?_
  rintro v s ⟨fs, rfl, q1, q3⟩
  obtain ⟨s2, q4, rfl⟩ := q3.split dr.lt
  exact ⟨fs, s2, rfl, q1, rfl, u.trans q4⟩
/-- names that are drawn -/
theorem zip_npv {m : Nat} : ∀ {ws : List Str} {ys : List PV}, ys.length = (ws.map PV.str).length → (∀ p ∈ (ws.map PV.str).zip ys, ∃ d : Nat, p.2 = .tup [p.1, .int (d : Nat)] ∧ d < m) → ∃ ns : List (Str × Nat), ys = ns.map npv ∧ ns.map (·.1) = ws ∧ ∀ p ∈ ns, p.2 < m
  | [], [], _, _ => ⟨[], rfl, rfl, nofun⟩
  | [], _ :: _, h, _ => by simp at h
  | _ :: _, [], h, _ => by simp at h
  | w :: ws, y :: ys, h, hp => by
    obtain ⟨d, e, hd⟩ := hp (.str w, y) (by simp)
    obtain ⟨ns, e1, e2, e3⟩ := zip_npv (ws := ws) (ys := ys) (by simpa using h) fun p hq => hp p (by simp only [List.map_cons, List.zip_cons_cons]; exact List.mem_cons_of_mem _ hq)
    refine ⟨(w, d) :: ns, ?_, by simp [e2], fun p hp => ?_⟩
    · have e : y = .tup [.str w, .int (d : Nat)] := e
      rw [e, e1]; rfl
    · rcases List.mem_cons.mp hp with rfl | hp
      · exact hd
      · exact e3 p hp
theorem range_int (m : Nat) : ∀ x ∈ rangeP 0 m, ∃ i : Int, x = .int i := fun x hx => by
  obtain ⟨z, h, _⟩ := range_small m x hx
  exact ⟨z, h⟩
theorem range_len (m : Nat) : (rangeP 0 m).length = m := by simp [rangeP]
theorem lows_ob (k : Nat) (l : List Ob) : lows k (l.map Ob.pv) = true := by
  induction l with
  | nil => rfl
  | cons p l ih => simp only [List.map_cons, lows, Ob.pv, low, lows_fpv, ih, Bool.and_self]
theorem lows_npv0 (k : Nat) (l : List (Str × Nat)) : lows k (l.map npv) = true := by
  induction l with
  | nil => rfl
  | cons a l ih => simp only [List.map_cons, lows, npv, low, ih, Bool.and_self]
theorem range1_ok {m : M} {env : Lo} {s s' : Sto} {n : Nat} (h : m env s = .ok (.int (n : Nat)) s') (hn : n ≤ 1000) : mRange1 m env s = .ok (rangeP 0 n) s' := by
  simp_arith! [mRange1, h]
  rw [if_pos (range_ok _ (by omega) (by omega)), Int.toNat_natCast]
abbrev objB : MS := (cSeq (cSet (.one 6) (mBin sIx (mApp sLstF (mCons (mC (.str "open")) (mCons (mC (.str "frozen")) mNil))) (mApp sMin2 (mCons (mApp (fnN 2 f__law_take) (mCons (mVar 0) (mCons (mC (.int 3)) mNil))) (mCons (mC (.int 1)) mNil)))))
  (cExpr (mAppend (mVar 3) (mApp sTup (mCons (mVar 6) (mCons (mApp (fnN 2 f__law_fields_2) (mCons (mVar 0) (mCons (mVar 2) mNil))) mNil))))))
/-- what holds while objects are made -/
structure MkO (st : Sto) (k m : Nat) (mo : PV) (e : Lo) (s : Sto) (obs : List Ob) : Prop where
  ex : ∃ (s1 : Sto) (x4 x6 : Option PV), e = [some (.ref k), some mo, some (.int (m : Nat)), some (.ref st.length), x4, none, x6, none] ∧ s = s1 ++ [.lst (obs.map Ob.pv)] ∧ Up k st s1
  ok : ∀ o ∈ obs, o.Ok m
theorem obj_turn {st : Sto} {k m : Nat} {mo : PV} (hk : Dr k st) (h0 : 0 < m) (h1 : m ≤ 30) {R : PV → Sto → Prop} {B C : Lo → Sto → Prop} {N : Lo → Sto → Prop} {obs : List Ob} {s1 : Sto} {x4 x6 : Option PV} (hl : obs.length ≤ 100) (u : Up k st s1) (ok : ∀ o ∈ obs, o.Ok m)
    (fin : ∀ e s (o : Ob), MkO st k m mo e s (obs ++ [o]) → N e s) :
    wO (objB [some (.ref k), some mo, some (.int (m : Nat)), some (.ref st.length), x4, none, x6, none] (s1 ++ [.lst (obs.map Ob.pv)])) N R B C := by
  have l2 : ∀ (a b : PV) (s : Sto), sLstF [a, b] s = .ok (.lst [a, b]) s := fun _ _ _ => rfl
  unfold objB
  simp_all_arith! [l2]
  refine (take_app u hk (by decide) (by decide)).imp ?_
  rintro _ _ ⟨d, s2, rfl, d0, d1, rfl, u2⟩
  obtain ⟨kd, q, hkd, mn, ek⟩ : ∃ (kd : Str) (q : Int), (kd = "open" ∨ kd = "frozen") ∧ (∀ s : Sto, sMin2 [.int d, .int 1] s = .ok (.int q) s) ∧ ∀ s : Sto, sIx (.lst [.str "open", .str "frozen"]) (.int q) s = .ok (.str kd) s := by
    have : d = 0 ∨ d = 1 ∨ d = 2 := by omega
    rcases this with rfl | rfl | rfl
    · exact ⟨"open", 0, .inl rfl, fun _ => rfl, fun _ => rfl⟩
    · exact ⟨"frozen", 1, .inr rfl, fun _ => rfl, fun _ => rfl⟩
    · exact ⟨"frozen", 1, .inr rfl, fun _ => rfl, fun _ => rfl⟩
  have hl2 := u2.len
  have at2 : (s2 ++ [MO.lst (obs.map Ob.pv)])[st.length]? = some (.lst (obs.map Ob.pv)) := by rw [← hl2]; exact get_end s2 _
  simp_all_arith! [mn, ek, mAppend, isl_ok at2]
  refine (fields2_app u2 hk (by omega) (by omega)).imp ?_
  rintro _ _ ⟨fs, s3, rfl, hf, rfl, u3⟩
  have hl3 := u3.len
  have at3 : (s3 ++ [MO.lst (obs.map Ob.pv)])[st.length]? = some (.lst (obs.map Ob.pv)) := by rw [← hl3]; exact get_end s3 _
  have ap : ∀ y : PV, sApp (.ref st.length) y (s3 ++ [.lst (obs.map Ob.pv)]) = .ok .non (s3 ++ [.lst (obs.map Ob.pv ++ [y])]) := fun y => by
    rw [app_ok at3 (by rw [List.length_map]; omega), ← hl3, set_end]
  simp_all_arith! [sTup2, ap]
  refine fin _ _ ⟨kd, fs⟩ ⟨⟨s3, _, _, rfl, by simp [Ob.pv], u3⟩, fun o ho => ?_⟩
  rcases List.mem_append.mp ho with q | q
  · exact ok o q
  · rw [List.mem_singleton.mp q]; exact hf.ob hkd
theorem obj_loop {Rg : M → iL} (hRg : mRange1 = Rg) {st : Sto} {k m : Nat} {mo : PV} (hk : Dr k st) (h0 : 0 < m) (h1 : m ≤ 30) {R : PV → Sto → Prop} {B C : Lo → Sto → Prop} {N : Lo → Sto → Prop} {s1 : Sto} (u : Up k st s1) (fin : ∀ e s obs, MkO st k m mo e s obs → obs.length = m → N e s) :
    wO (cFor (Rg (mVar 2)) (.one 4) objB [some (.ref k), some mo, some (.int (m : Nat)), some (.ref st.length), none, none, none, none] (s1 ++ [.lst []])) N R B C := by
  subst hRg
  rw [wO_for, range1_ok (m := mVar 2) rfl (by omega), wR_ok]
  refine w_forGo (I := fun rem e s => ∃ (obs : List Ob), rem.length + obs.length = m ∧ MkO st k m mo e s obs) ?_ ?_ ⟨[], by rw [range_len]; rfl, ⟨s1, none, none, rfl, rfl, u⟩, nofun⟩
  · rintro x xs e s ⟨obs, hl, ⟨s1, x4, x6, rfl, rfl, u⟩, ok⟩
    rw [List.length_cons] at hl
    exact ⟨_, rfl, obj_turn hk h0 h1 (by omega) u ok fun e s o h => ⟨obs ++ [o], by rw [List.length_append, List.length_singleton]; omega, h⟩⟩
  · rintro e s ⟨obs, hl, h⟩
    exact fin e s obs h (by simpa using hl)
theorem wO_setIx50 {o i v : M} {env : Lo} {st : Sto} {N : Lo → Sto → Prop} {R : PV → Sto → Prop} {B C : Lo → Sto → Prop} : wO (cSetIx o i v env st) N R B C = wR (v env st) (fun x s1 => wR (o env s1) fun y s2 => wR (i env s2) fun z s3 => wR (sSetIx y z x s3) fun _ s => N env s) := by
  unfold cSetIx
  cases v env st with
  | ok x s1 =>
    simp only [Res.bind_ok, wR]
    cases o env s1 with
    | ok y s2 =>
      simp only [Res.bind_ok]
      cases i env s2 with
      | ok z s3 => simp only [Res.bind_ok]; cases sSetIx y z x s3 <;> rfl
      | _ => rfl
    | _ => rfl
  | _ => rfl
abbrev putB : MS := cSetIx (mVar 3) (mApp (fnN 2 f__law_take) (mCons (mVar 0) (mCons (mVar 2) mNil))) (mBin sIx (mVar 3) (mApp (fnN 2 f__law_take) (mCons (mVar 0) (mCons (mVar 2) mNil))))
theorem put_loop {Rg : M → iL} (hRg : mRange1 = Rg) {st : Sto} {k m : Nat} {mo : PV} (hk : Dr k st) (h0 : 0 < m) (h1 : m ≤ 30) {R : PV → Sto → Prop} {B C : Lo → Sto → Prop} {N : Lo → Sto → Prop} {e : Lo} {s : Sto} {obs : List Ob} (h : MkO st k m mo e s obs) (hl : obs.length = m) (fin : ∀ e s obs, MkO st k m mo e s obs → obs.length = m → N e s) :
    wO (cFor (Rg (mApp (fnN 2 f__law_take) (mCons (mVar 0) (mCons (mC (.int 3)) mNil)))) (.one 4) putB e s) N R B C := by
  subst hRg
  obtain ⟨⟨s1, x4, x6, rfl, rfl, u⟩, ok⟩ := h
  rw [wO_for]
  obtain ⟨v, s', ed, d, s2, rfl, d0, d1, rfl, u2⟩ := (take_app (t := [MO.lst (obs.map Ob.pv)]) u hk (n := 3) (by decide) (by decide)).get
  obtain ⟨q, rfl⟩ := Int.eq_ofNat_of_zero_le d0
  have em : mApp (fnN 2 f__law_take) (mCons (mVar 0) (mCons (mC (.int 3)) mNil)) [some (.ref k), some mo, some (.int (m : Nat)), some (.ref st.length), x4, none, x6, none] (s1 ++ [MO.lst (obs.map Ob.pv)]) = .ok (.int (q : Nat)) (s2 ++ [MO.lst (obs.map Ob.pv)]) := by
    simp_arith! [ed]
  rw [range1_ok em (by omega), wR_ok]
  refine forget (P := fun x => ∃ i : Int, x = .int i) (I := fun e s => ∃ obs, MkO st k m mo e s obs ∧ obs.length = m) ?_ (range_int _) ⟨obs, ⟨⟨s2, x4, x6, rfl, rfl, u2⟩, ok⟩, hl⟩ (fun e s ⟨obs, h, hl⟩ => fin e s obs h hl)
  rintro x e s ⟨i, rfl⟩ ⟨obs, ⟨⟨s1, x4, x6, rfl, rfl, u⟩, ok⟩, hl⟩
  refine ⟨_, rfl, ?_⟩
  rw [wO_setIx50]
  simp_all_arith! [Sim.wR_ok]
  refine (take_app u hk (by omega) (by omega)).imp ?_
  rintro _ _ ⟨a, s2, rfl, a0, a1, rfl, u2⟩
  obtain ⟨a, rfl⟩ := Int.eq_ofNat_of_zero_le a0
  have hl2 := u2.len
  have at2 : (s2 ++ [MO.lst (obs.map Ob.pv)])[st.length]? = some (.lst (obs.map Ob.pv)) := by rw [← hl2]; exact get_end s2 _
  have ha : a < (obs.map Ob.pv).length := by rw [List.length_map]; omega
  simp_all_arith! [ixRM at2 ha]
  refine (take_app u2 hk (by omega) (by omega)).imp ?_
  rintro _ _ ⟨b, s3, rfl, b0, b1, rfl, u3⟩
  obtain ⟨b, rfl⟩ := Int.eq_ofNat_of_zero_le b0
  have hl3 := u3.len
  have at3 : (s3 ++ [MO.lst (obs.map Ob.pv)])[st.length]? = some (.lst (obs.map Ob.pv)) := by rw [← hl3]; exact get_end s3 _
  have hb : b < (obs.map Ob.pv).length := by rw [List.length_map]; omega
  have ha2 : a < obs.length := by omega
  refine wR_eq (setI at3 hb _) ?_
  refine ⟨obs.set b obs[a], ⟨⟨s3, _, x6, rfl, ?_, u3⟩, fun o ho => ?_⟩, by rw [List.length_set]; exact hl⟩
  · rw [← hl3, set_end, List.getElem_map, List.map_set]
  · rcases List.mem_or_eq_of_mem_set ho with q | q
    · exact ok o q
    · rw [q]; exact ok _ (List.getElem_mem ha2)
abbrev endB : MS := (cSeq (cSet (.one 5) (mSlice (mApp sLstF (mCons (mC (.str "a")) (mCons (mC (.str "ab")) (mCons (mC (.str "b")) (mCons (mC (.str "f")) (mCons (mC (.str "namename")) (mCons (mC (.str "y")) mNil))))))) oNone (oSome (mBin sAdd (mC (.int 1)) (mApp (fnN 2 f__law_take) (mCons (mVar 0) (mCons (mC (.int 6)) mNil)))))))
  (cRet (mApp sTup (mCons (mApp sTuple (mCons (mVar 3) mNil)) (mCons (mApp sTuple (mCons (mLc (mIter (mVar 5)) (.one 7) bYes (mApp sTup (mCons (mVar 7) (mCons (mApp (fnN 2 f__law_take) (mCons (mVar 0) (mCons (mVar 2) mNil))) mNil))) [7]) mNil)) mNil)))))
/-- a drawn web, its names the first of the six -/
def Q50 (most k : Nat) (st : Sto) (v : PV) (s : Sto) : Prop := ∃ (w : Web) (j : Nat), v = w.pv ∧ w.Ok ∧ w.os.length ≤ most ∧ j < 6 ∧ w.ns.map (·.1) = words50.take (1 + j) ∧ Up k st s
theorem web_end {st : Sto} {k m most : Nat} {mo : PV} (hk : Dr k st) (h0 : 0 < m) (h1 : m ≤ 30) (hm : m ≤ most) {B C N : Lo → Sto → Prop} {e : Lo} {s : Sto} {obs : List Ob} (h : MkO st k m mo e s obs) (hl : obs.length = m) :
    wO (endB e s) N (fun v s => wR (gc st v s) (Q50 most k st)) B C := by
  obtain ⟨⟨s1, x4, x6, rfl, rfl, u⟩, ok⟩ := h
  have l6 : ∀ s : Sto, sLstF [.str "a", .str "ab", .str "b", .str "f", .str "namename", .str "y"] s = .ok (.lst (words50.map .str)) s := fun _ => rfl
  have add1 : ∀ (a b : Int) (s : Sto), sAdd (.int a) (.int b) s = .ok (.int (a + b)) s := fun _ _ _ => rfl
  unfold endB
  simp_all_arith! [mSlice, oNone, oSome, l6]
  refine (take_app u hk (by decide) (by decide)).imp ?_
  rintro _ _ ⟨d, s2, rfl, d0, d1, rfl, u2⟩
  obtain ⟨j, rfl⟩ := Int.eq_ofNat_of_zero_le d0
  have hcut : ∀ s, sSlice (.lst (words50.map .str)) none (some (1 + (j : Int))) s = .ok (.lst ((words50.take (1 + j)).map .str)) s := by
    intro s
    have := cutTo (words50.map .str) (1 + j)
    simp only [sSlice, asL]
    rw [show (1 + (j : Int)) = ((1 + j : Nat) : Int) by omega, this, List.map_take]
  have hl2 := u2.len
  have at2 : (s2 ++ [MO.lst (obs.map Ob.pv)])[st.length]? = some (.lst (obs.map Ob.pv)) := by rw [← hl2]; exact get_end s2 _
  have hlen6 : (words50.take (1 + j)).length ≤ 6 := by
    rw [List.length_take]
    have : words50.length = 6 := rfl
    omega
  simp_all_arith! [add1, hcut, tupM at2, mLc, fit_small (xs := (words50.take (1 + j)).map PV.str) (by rw [List.length_map]; omega), wipeL]
  refine w_lcGo (P := fun x y => ∃ d : Nat, y = .tup [x, .int (d : Nat)] ∧ d < m) (I := fun s => ∃ s1, s = s1 ++ [MO.lst (obs.map Ob.pv)] ∧ Up k st s1) ?_ ⟨s2, rfl, u2⟩ ?_
  · rintro x hx s ⟨s1, rfl, u1⟩
    refine ⟨_, rfl, ?_⟩
    simp_all_arith! [Sim.wR_ok]
    refine (take_app u1 hk (by omega) (by omega)).imp ?_
    rintro _ _ ⟨d, s3, rfl, d0, d1, rfl, u3⟩
    obtain ⟨d, rfl⟩ := Int.eq_ofNat_of_zero_le d0
    simp_all_arith! [sTup2]
    exact ⟨⟨d, rfl, by omega⟩, s3, rfl, u3⟩
  · rintro ys s hy hp ⟨s3, rfl, u3⟩
    obtain ⟨ns, rfl, hns, hlt⟩ := zip_npv hy hp
    have tl : ∀ (xs : List PV) (s : Sto), sTuple [.lst xs] s = .ok (.tup xs) s := fun _ _ => rfl
    simp_all_arith! [tl, sTup2]
    rw [gc_up u3 (by simp only [low, lows, lows_ob, lows_npv0, Bool.and_self])]
    have hn : ns.length ≤ 6 := by
      have := congrArg List.length hns
      rw [List.length_map] at this
      omega
    have h1n : 1 ≤ ns.length := by
      have := congrArg List.length hns
      rw [List.length_map, List.length_take] at this
      have e6 : words50.length = 6 := rfl
      omega
    refine ⟨⟨obs, ns⟩, j, rfl, ⟨by show 1 ≤ obs.length; omega, by show obs.length ≤ 30; omega, fun o ho => by rw [show (Web.mk obs ns).os.length = m from hl]; exact ok o ho, h1n, hn, ?_, fun p hp => ?_, fun p hp => ?_⟩, by show obs.length ≤ most; omega, by omega, hns, u3⟩
    · show (ns.map (·.1)).Pairwise ltS
      rw [hns]
      exact words50_up.sublist (List.take_sublist _ _)
    · have : p.1 ∈ words50.take (1 + j) := by rw [← hns]; exact List.mem_map.mpr ⟨p, hp, rfl⟩
      exact words50_wd _ (List.mem_of_mem_take this)
    · show p.2 < obs.length
      have := hlt p hp
      omega
theorem web2_w {st : Sto} {k : Nat} {most : Nat} (hk : Dr k st) (h0 : 0 < most) (h1 : most ≤ 30) : wR (f__law_web_2 [.ref k, .int (most : Nat)] st) (Q50 most k st) := by
  unfold f__law_web_2
  generalize hm0 : m__law_web_2 = m0
  refine w_defM ?_
  rewrite [← hm0]
  unfold m__law_web_2
  generalize hR : mRange1 = R1
  have add1 : ∀ (a b : Int) (s : Sto), sAdd (.int a) (.int b) s = .ok (.int (a + b)) s := fun _ _ _ => rfl
  refine w_cut2 (M := fun e s => ∃ (m : Nat) (s1 : Sto), 1 ≤ m ∧ m ≤ most ∧ e = [some (.ref k), some (.int (most : Nat)), some (.int (m : Nat)), some (.ref st.length), none, none, none, none] ∧ s = s1 ++ [.lst []] ∧ Up k st s1) ?_ ?_
  · simp_all_arith! [Sim.wR_ok]
    refine (take_w hk (by omega) (by omega)).imp ?_
    rintro _ s1 ⟨d, rfl, d0, d1, u⟩
    obtain ⟨j, rfl⟩ := Int.eq_ofNat_of_zero_le d0
    have m0 : sLstM [] s1 = .ok (.ref st.length) (s1 ++ [.lst []]) := by rw [← u.len]; rfl
    simp_all_arith! [add1, m0]
    have ej : (1 + ((j : Nat) : Int)) = ((1 + j : Nat) : Int) := by omega
    rw [ej]
    exact ⟨1 + j, s1, by omega, by omega, rfl, rfl, u⟩
  · rintro e s ⟨m, s1, hm1, hm2, rfl, rfl, u1⟩
    rewrite [wO_seq]
    refine obj_loop hR hk hm1 (by omega) u1 ?_
    intro e s obs h hl
    rewrite [wO_seq]
    refine put_loop hR hk hm1 (by omega) h hl ?_
    intro e s obs h hl
    exact web_end hk hm1 (by omega) hm2 h hl
end K01
set_option Elab.async false
set_option linter.all false
set_option maxRecDepth 100000
set_option maxHeartbeats 1000000
namespace K01
open PySem PySem.Spec PyProof.Rows L2 Sim Pg
/-! ### webs that look the same: what is alike -/
/-- two lists, item by item -/
inductive All2 {α β : Type} (R : α → β → Prop) : List α → List β → Prop
  | nil : All2 R [] []
  | cons {a b as bs} : R a b → All2 R as bs → All2 R (a :: as) (b :: bs)
namespace All2
variable {α β γ : Type} {R S : α → β → Prop}
theorem imp (f : ∀ a b, R a b → S a b) : ∀ {as : List α} {bs : List β}, All2 R as bs → All2 S as bs
  | _, _, .nil => .nil
  | _, _, .cons r t => .cons (f _ _ r) (imp f t)
theorem len : ∀ {as : List α} {bs : List β}, All2 R as bs → as.length = bs.length
  | _, _, .nil => rfl
  | _, _, .cons _ t => by simp [len t]
theorem flip : ∀ {as : List α} {bs : List β}, All2 R as bs → All2 (fun b a => R a b) bs as
  | _, _, .nil => .nil
  | _, _, .cons r t => .cons r (flip t)
theorem trans {Q : β → γ → Prop} {P : α → γ → Prop} (f : ∀ a b c, R a b → Q b c → P a c) : ∀ {as : List α} {bs : List β} {cs : List γ}, All2 R as bs → All2 Q bs cs → All2 P as cs
  | _, _, _, .nil, .nil => .nil
  | _, _, _, .cons r t, .cons q u => .cons (f _ _ _ r q) (trans f t u)
theorem refl {R : α → α → Prop} : ∀ {as : List α}, (∀ a ∈ as, R a a) → All2 R as as
  | [], _ => .nil
  | a :: as, h => .cons (h a List.mem_cons_self) (refl fun b hb => h b (List.mem_cons_of_mem _ hb))
theorem app : ∀ {as as' : List α} {bs bs' : List β}, All2 R as bs → All2 R as' bs' → All2 R (as ++ as') (bs ++ bs')
  | _, _, _, _, .nil, h => h
  | _, _, _, _, .cons r t, h => .cons r (app t h)
theorem memL : ∀ {as : List α} {bs : List β}, All2 R as bs → ∀ a ∈ as, ∃ b ∈ bs, R a b
  | _, _, .nil, a, h => nomatch h
  | _, _, .cons r t, a, h => by
    rcases List.mem_cons.mp h with rfl | h
    · exact ⟨_, List.mem_cons_self, r⟩
    · obtain ⟨b, hb, q⟩ := memL t a h
      exact ⟨b, List.mem_cons_of_mem _ hb, q⟩
theorem get : ∀ {as : List α} {bs : List β} {i : Nat} {a : α}, All2 R as bs → as[i]? = some a → ∃ b, bs[i]? = some b ∧ R a b
  | _, _, _, _, .nil, e => by simp at e
  | _, _, 0, _, .cons r t, e => by simp at e; subst e; exact ⟨_, rfl, r⟩
  | _, _, i + 1, a, .cons r t, e => by simpa using get (i := i) (a := a) t (by simpa using e)
theorem map_eq {f : α → γ} {g : β → γ} (h : ∀ a b, R a b → f a = g b) : ∀ {as : List α} {bs : List β}, All2 R as bs → as.map f = bs.map g
  | _, _, .nil => rfl
  | _, _, .cons r t => by rw [List.map_cons, List.map_cons, h _ _ r, map_eq h t]
end All2
/-- values alike -/
inductive VR (R : Nat → Nat → Prop) : Vl → Vl → Prop
  | int (i : Int) : VR R (.int i) (.int i)
  | ref {a b : Nat} : R a b → VR R (.ref a) (.ref b)
def FR (R : Nat → Nat → Prop) : List (Str × Vl) → List (Str × Vl) → Prop := All2 fun p q => p.1 = q.1 ∧ VR R p.2 q.2
theorem VR.imp {R S : Nat → Nat → Prop} (f : ∀ a b, R a b → S a b) {v u : Vl} (h : VR R v u) : VR S v u := by
  cases h with
  | int i => exact .int i
  | ref r => exact .ref (f _ _ r)
theorem FR.imp {R S : Nat → Nat → Prop} (f : ∀ a b, R a b → S a b) {fs gs : List (Str × Vl)} (h : FR R fs gs) : FR S fs gs := All2.imp (fun _ _ ⟨a, b⟩ => ⟨a, b.imp f⟩) h
theorem VR.flip {R : Nat → Nat → Prop} {v u : Vl} (h : VR R v u) : VR (fun a b => R b a) u v := by
  cases h with
  | int i => exact .int i
  | ref r => exact .ref r
theorem FR.flip {R : Nat → Nat → Prop} {fs gs : List (Str × Vl)} (h : FR R fs gs) : FR (fun a b => R b a) gs fs := (All2.flip h).imp fun _ _ ⟨a, b⟩ => ⟨a.symm, b.flip⟩
theorem FR.trans {R S Q : Nat → Nat → Prop} (f : ∀ a b c, R a b → S b c → Q a c) {fs gs hs : List (Str × Vl)} (h : FR R fs gs) (h' : FR S gs hs) : FR Q fs hs :=
  All2.trans (fun p q r ⟨a, b⟩ ⟨c, d⟩ => ⟨a.trans c, by
    generalize hv : p.2 = v at b
    generalize hu : q.2 = u at b d
    generalize hx : r.2 = x at d
    cases b with
    | int i => cases d; exact .int i
    | ref r1 => cases d with | ref r2 => exact .ref (f _ _ _ r1 r2)⟩) h h'
theorem FR.nil_iff {R : Nat → Nat → Prop} {fs gs : List (Str × Vl)} (h : FR R fs gs) : fs = [] ↔ gs = [] := by
  cases h <;> simp
theorem FR.refl {R : Nat → Nat → Prop} {fs : List (Str × Vl)} (h : ∀ r ∈ refs fs, R r r) : FR R fs fs := All2.refl fun p hp => ⟨rfl, by
  cases hv : p.2 with
  | int i => exact .int i
  | ref n => exact .ref (h n (List.mem_filterMap.mpr ⟨p, hp, by rw [hv]; rfl⟩))⟩
theorem FR.refs {R : Nat → Nat → Prop} {fs gs : List (Str × Vl)} (h : FR R fs gs) : All2 R (refs fs) (K01.refs gs) := by
  induction h with
  | nil => exact .nil
  | @cons p q fs gs r t ih =>
    obtain ⟨a, u⟩ := p
    obtain ⟨b, v⟩ := q
    obtain ⟨_, r⟩ := r
    cases r with
    | int i => simpa [K01.refs, vref] using ih
    | ref r => simpa [K01.refs, vref] using All2.cons r ih
/-- an object that can be changed -/
def chgw (w : Web) (n : Nat) : Prop := kindAt w n = "open" ∧ fieldsAt w n ≠ []
instance (w : Web) (n : Nat) : Decidable (chgw w n) := inferInstanceAs (Decidable (_ ∧ _))
/-- a relation of two webs that no script tells apart -/
structure Bis (w w' : Web) (R : Nat → Nat → Prop) : Prop where
  lt : ∀ i j, R i j → i < w.os.length ∧ j < w'.os.length
  nm : All2 (fun (p : Str × Nat) (q : Str × Nat) => p.1 = q.1 ∧ R p.2 q.2) w.ns w'.ns
  ob : ∀ i j, R i j → kindAt w i = kindAt w' j ∧ FR R (fieldsAt w i) (fieldsAt w' j)
  l : ∀ i j j', R i j → R i j' → chgw w i → j = j'
  r : ∀ i i' j, R i j → R i' j → chgw w' j → i = i'
theorem Bis.chgw {w w' : Web} {R : Nat → Nat → Prop} (b : Bis w w' R) {i j : Nat} (r : R i j) : chgw w i ↔ K01.chgw w' j := by
  obtain ⟨k, f⟩ := b.ob i j r
  unfold K01.chgw
  rw [k, ne_eq, ne_eq, f.nil_iff]
theorem Bis.flip {w w' : Web} {R : Nat → Nat → Prop} (b : Bis w w' R) : Bis w' w (fun j i => R i j) :=
  ⟨fun j i r => (b.lt i j r).symm, (All2.flip b.nm).imp fun _ _ ⟨x, y⟩ => ⟨x.symm, y⟩, fun j i r => ⟨(b.ob i j r).1.symm, (b.ob i j r).2.flip⟩, fun j i i' r r' c => b.r i i' j r r' c, fun j j' i r r' c => b.l i j j' r r' c⟩
theorem Bis.trans {w w' w'' : Web} {R S : Nat → Nat → Prop} (b : Bis w w' R) (c : Bis w' w'' S) : Bis w w'' (fun i k => ∃ j, R i j ∧ S j k) := by
  refine ⟨fun i k ⟨j, r, s⟩ => ⟨(b.lt i j r).1, (c.lt j k s).2⟩, All2.trans (fun p q r ⟨x, y⟩ ⟨z, u⟩ => ⟨x.trans z, _, y, u⟩) b.nm c.nm, fun i k ⟨j, r, s⟩ => ⟨(b.ob i j r).1.trans (c.ob j k s).1, FR.trans (fun x y z r s => ⟨y, r, s⟩) (b.ob i j r).2 (c.ob j k s).2⟩, ?_, ?_⟩
  · rintro i k k' ⟨j, r, s⟩ ⟨j', r', s'⟩ ch
    have := b.l i j j' r r' ch
    subst this
    exact c.l j k k' s s' ((b.chgw r).mp ch)
  · rintro i i' k ⟨j, r, s⟩ ⟨j', r', s'⟩ ch
    have := c.r j j' k s s' ch
    subst this
    exact b.r i i' j r r' ((c.chgw s).mpr ch)
/-! ### the same web, by breadth-first numbers -/
section
variable {w w' : Web} {R : Nat → Nat → Prop}
theorem All2.mem_iff (h1 : ∀ i j j', R i j → R i j' → j = j') (h2 : ∀ i i' j, R i j → R i' j → i = i') : ∀ {as bs : List Nat}, All2 R as bs → ∀ {i j : Nat}, R i j → (i ∈ as ↔ j ∈ bs)
  | _, _, .nil, _, _, _ => by simp
  | _, _, .cons (a := a) (b := b) r t, i, j, q => by
    rw [List.mem_cons, List.mem_cons, mem_iff h1 h2 t q]
    constructor
    · rintro (e | e)
      · subst e; exact .inl (h1 _ _ _ q r)
      · exact .inr e
    · rintro (e | e)
      · subst e; exact .inl (h2 _ _ _ q r)
      · exact .inr e
end
end K01
set_option Elab.async false
set_option linter.all false
set_option maxRecDepth 100000
set_option maxHeartbeats 1000000
namespace K01
open PySem PySem.Spec PyProof.Rows L2 Sim Pg
/-! ### scripts keep it -/
section
variable {w w' : Web} {R : Nat → Nat → Prop}
theorem kindAt_set {n m : Nat} (hn : n < w.os.length) (k : Str) (x : Vl) : kindAt (setOb w n k x) m = kindAt w m := by
  unfold kindAt setOb
  dsimp only
  by_cases e : n = m
  · subst e
    rw [List.getElem?_set_self hn, List.getElem?_eq_getElem hn]
    simp only [setOb.kindAt0, List.getElem?_eq_getElem hn]
  · rw [List.getElem?_set_ne e]
theorem fieldsAt_set {n m : Nat} (hn : n < w.os.length) (k : Str) (x : Vl) : fieldsAt (setOb w n k x) m = if m = n then putV (fieldsAt w n) k x else fieldsAt w m := by
  unfold fieldsAt setOb
  dsimp only
  by_cases e : n = m
  · subst e
    rw [List.getElem?_set_self hn, List.getElem?_eq_getElem hn, if_pos rfl]
    simp only [setOb.fieldsAt0, List.getElem?_eq_getElem hn]
  · rw [List.getElem?_set_ne e, if_neg (fun z => e z.symm)]
theorem chgw_set {n m : Nat} (hn : n < w.os.length) (k : Str) (x : Vl) : chgw (setOb w n k x) m ↔ chgw w m := by
  unfold chgw
  rw [kindAt_set hn, fieldsAt_set hn]
  by_cases e : m = n
  · subst e
    rw [if_pos rfl]
    unfold putV
    rw [ne_eq, List.map_eq_nil_iff]
  · rw [if_neg e]
end
end K01
set_option Elab.async false
set_option linter.all false
set_option maxRecDepth 100000
set_option maxHeartbeats 1000000
namespace K01
open PySem PySem.Spec PyProof.Rows L2 Sim Pg
/-! ### what is alike, made finer until nothing changes -/
/-- the lowest number below n with the same g -/
def lowG {β : Type} [DecidableEq β] (g : Nat → β) (n i : Nat) : Nat := ((List.range n).find? fun j => decide (g j = g i)).getD i
section
variable {β : Type} [DecidableEq β] {g : Nat → β} {n i j : Nat}
theorem lowG_spec (hi : i < n) : lowG g n i ≤ i ∧ g (lowG g n i) = g i ∧ ∀ j, j < n → g j = g i → lowG g n i ≤ j := by
  unfold lowG
  cases h : (List.range n).find? fun j => decide (g j = g i) with
  | none =>
    have := List.find?_eq_none.mp h i (List.mem_range.mpr hi)
    simp at this
  | some r =>
    have h1 := List.find?_some h
    have hm : ∀ j, j < n → g j = g i → r ≤ j := by
      intro j hj e
      rcases Nat.lt_or_ge j r with hlt | hge
      · obtain ⟨_, k, hk, e1, e2⟩ := List.find?_eq_some_iff_getElem.mp h
        rw [List.getElem_range] at e1
        subst e1
        have := e2 j hlt
        rw [List.getElem_range] at this
        simp [e] at this
      · exact hge
    exact ⟨hm i hi rfl, of_decide_eq_true h1, hm⟩
theorem lowG_lt (hi : i < n) : lowG g n i < n := Nat.lt_of_le_of_lt (lowG_spec hi).1 hi
theorem lowG_iff (hi : i < n) (hj : j < n) : lowG g n i = lowG g n j ↔ g i = g j := by
  constructor
  · intro e
    rw [← (lowG_spec (g := g) hi).2.1, e, (lowG_spec (g := g) hj).2.1]
  · intro e
    have h1 := (lowG_spec (g := g) hi).2.2 (lowG g n j) (lowG_lt hj) ((lowG_spec (g := g) hj).2.1.trans e.symm)
    have h2 := (lowG_spec (g := g) hj).2.2 (lowG g n i) (lowG_lt hi) ((lowG_spec (g := g) hi).2.1.trans e)
    omega
end
def mvH (h : Nat → Nat) : Vl → Vl
  | .ref n => .ref (h n)
  | .int i => .int i
def mvHF (h : Nat → Nat) (fs : List (Str × Vl)) : List (Str × Vl) := fs.map fun p => (p.1, mvH h p.2)
inductive Sig where
  | own (n : Nat) | shp (k : Str) (fs : List (Str × Vl))
  deriving DecidableEq
def sig (w : Web) (h : Nat → Nat) (i : Nat) : Sig := if chgw w i then .own i else .shp (kindAt w i) (mvHF h (fieldsAt w i))
/-- related by the numbers that h gives -/
theorem mvHF_iff {h h' : Nat → Nat} {fs gs : List (Str × Vl)} : mvHF h fs = mvHF h' gs ↔ FR (fun a b => h a = h' b) fs gs := by
  constructor
  · intro e
    induction fs generalizing gs with
    | nil => cases gs with
      | nil => exact .nil
      | cons q gs => cases e
    | cons p fs ih =>
      cases gs with
      | nil => cases e
      | cons q gs =>
        simp only [mvHF, List.map_cons, List.cons.injEq, Prod.mk.injEq] at e
        refine .cons ⟨e.1.1, ?_⟩ (ih e.2)
        obtain ⟨z, v⟩ := p
        obtain ⟨z', v'⟩ := q
        have e2 := e.1.2
        cases v with
        | int a => cases v' with
          | int b => cases e2; exact .int a
          | ref b => cases e2
        | ref a => cases v' with
          | int b => cases e2
          | ref b => exact .ref (Vl.ref.inj e2)
  · intro f
    refine All2.map_eq (fun p q r => ?_) f
    obtain ⟨z, v⟩ := p
    obtain ⟨z', v'⟩ := q
    obtain ⟨e, r⟩ := r
    dsimp only at e r
    subst e
    cases r with
    | int i => rfl
    | ref r => simp only [mvH]; rw [r]
/-- a relation within a web: what is related is one thing, or cannot be changed and is made alike -/
def Fine (w : Web) (S : Nat → Nat → Prop) : Prop := ∀ i j, i < w.os.length → j < w.os.length → S i j → i = j ∨ (¬ chgw w i ∧ ¬ chgw w j ∧ kindAt w i = kindAt w j ∧ FR S (fieldsAt w i) (fieldsAt w j))
def hN (hs : List Nat) (n : Nat) : Nat := hs.getD n 0
def finer (w : Web) (hs : List Nat) : List Nat := (List.range w.os.length).map (lowG (sig w (hN hs)) w.os.length)
theorem finer_len (w : Web) (hs : List Nat) : (finer w hs).length = w.os.length := by simp [finer]
theorem finer_at {w : Web} {hs : List Nat} {i : Nat} (hi : i < w.os.length) : hN (finer w hs) i = lowG (sig w (hN hs)) w.os.length i := by
  unfold hN finer
  rw [List.getD_eq_getElem?_getD, List.getElem?_map, List.getElem?_range hi]
  rfl
theorem sig_of {w : Web} {h : Nat → Nat} {i j : Nat} (hi : ¬ chgw w i) (hj : ¬ chgw w j) : sig w h i = sig w h j ↔ kindAt w i = kindAt w j ∧ FR (fun a b => h a = h b) (fieldsAt w i) (fieldsAt w j) := by
  unfold sig
  rw [if_neg hi, if_neg hj, ← mvHF_iff, Sig.shp.injEq]
theorem sig_chg {w : Web} {h : Nat → Nat} {i j : Nat} (hi : chgw w i) (e : sig w h i = sig w h j) : i = j := by
  unfold sig at e
  rw [if_pos hi] at e
  split at e
  · exact Sig.own.inj e
  · cases e
/-- between two turns -/
structure HI (w : Web) (hs : List Nat) : Prop where
  len : hs.length = w.os.length
  le : ∀ i, i < w.os.length → hN hs i ≤ i
  rep : ∀ i, i < w.os.length → hN hs (hN hs i) = hN hs i
  mono : ∀ i j, i < w.os.length → j < w.os.length → sig w (hN hs) i = sig w (hN hs) j → hN hs i = hN hs j
  max : ∀ S, Fine w S → ∀ i j, i < w.os.length → j < w.os.length → S i j → hN hs i = hN hs j
theorem fr_lt {w : Web} (h : w.Ok) {R : Nat → Nat → Prop} {S : Nat → Nat → Prop} (f : ∀ a b, a < w.os.length → b < w.os.length → R a b → S a b) {i j : Nat} (q : FR R (fieldsAt w i) (fieldsAt w j)) : FR S (fieldsAt w i) (fieldsAt w j) := by
  have h1 := refs_lt h i
  have h2 := refs_lt h j
  generalize fieldsAt w i = fs at q h1
  generalize fieldsAt w j = gs at q h2
  induction q with
  | nil => exact .nil
  | @cons p q fs gs r t ih =>
    obtain ⟨z, v⟩ := p
    obtain ⟨z', v'⟩ := q
    obtain ⟨e, r⟩ := r
    dsimp only at e r
    cases r with
    | int i => exact .cons ⟨e, .int i⟩ (ih (fun r hr => h1 r (by simpa [refs, vref] using hr)) (fun r hr => h2 r (by simpa [refs, vref] using hr)))
    | @ref a b r => exact .cons ⟨e, .ref (f a b (h1 a (by simp [refs, vref])) (h2 b (by simp [refs, vref])) r)⟩ (ih (fun r hr => h1 r (by simp only [refs, List.filterMap_cons, vref]; exact List.mem_cons_of_mem _ hr)) (fun r hr => h2 r (by simp only [refs, List.filterMap_cons, vref]; exact List.mem_cons_of_mem _ hr)))
theorem HI.start (w : Web) : HI w (List.replicate w.os.length 0) := by
  have e : ∀ i, hN (List.replicate w.os.length 0) i = 0 := fun i => by
    unfold hN
    rw [List.getD_eq_getElem?_getD, List.getElem?_replicate]
    split <;> rfl
  exact ⟨by simp, fun i _ => by rw [e]; exact Nat.zero_le _, fun i _ => by rw [e, e], fun i j _ _ _ => by rw [e, e], fun S _ i j _ _ _ => by rw [e, e]⟩
theorem HI.step {w : Web} (h : w.Ok) {hs : List Nat} (q : HI w hs) : HI w (finer w hs) := by
  refine ⟨finer_len w hs, fun i hi => ?_, fun i hi => ?_, fun i j hi hj e => ?_, fun S hS i j hi hj s => ?_⟩
  · rw [finer_at hi]; exact (lowG_spec hi).1
  · have hl := lowG_lt (g := sig w (hN hs)) hi
    rw [finer_at hi, finer_at hl, lowG_iff hl hi]
    exact (lowG_spec hi).2.1
  · rw [finer_at hi, finer_at hj, lowG_iff hi hj]
    by_cases ci : chgw w i
    · rw [sig_chg ci e]
    · have cj : ¬ chgw w j := fun z => ci (by rw [sig_chg z e.symm] at z; exact z)
      rw [sig_of ci cj] at e ⊢
      refine ⟨e.1, fr_lt h (fun a b ha hb r => ?_) e.2⟩
      rw [finer_at ha, finer_at hb, lowG_iff ha hb] at r
      exact q.mono a b ha hb r
  · rw [finer_at hi, finer_at hj, lowG_iff hi hj]
    rcases hS i j hi hj s with e | ⟨ci, cj, k, f⟩
    · rw [e]
    · rw [sig_of ci cj]
      exact ⟨k, fr_lt h (fun a b ha hb r => q.max S hS a b ha hb r) f⟩
/-- the representatives -/
def reps (w : Web) (hs : List Nat) : List Nat := (List.range w.os.length).filter fun i => decide (hN hs i = i)
theorem filter_lt {p q : Nat → Bool} (hpq : ∀ i, p i = true → q i = true) : ∀ {l : List Nat} {r : Nat}, r ∈ l → q r = true → p r = false → (l.filter p).length < (l.filter q).length
  | [], _, h, _, _ => nomatch h
  | a :: l, r, h, h1, h2 => by
    have le : (l.filter p).length ≤ (l.filter q).length := by
      clear h
      induction l with
      | nil => exact Nat.le_refl _
      | cons b l ih =>
        by_cases pb : p b = true
        · rw [List.filter_cons_of_pos pb, List.filter_cons_of_pos (hpq b pb)]; simp only [List.length_cons]; omega
        · rw [List.filter_cons_of_neg pb]
          by_cases qb : q b = true
          · rw [List.filter_cons_of_pos qb]; simp only [List.length_cons]; omega
          · rw [List.filter_cons_of_neg qb]; exact ih
    rcases List.mem_cons.mp h with rfl | hm
    · rw [List.filter_cons_of_neg (by rw [h2]; exact Bool.false_ne_true), List.filter_cons_of_pos h1]
      simp only [List.length_cons]; omega
    · have ih := filter_lt hpq hm h1 h2
      by_cases pa : p a = true
      · rw [List.filter_cons_of_pos pa, List.filter_cons_of_pos (hpq a pa)]; simp only [List.length_cons]; omega
      · rw [List.filter_cons_of_neg pa]
        by_cases qa : q a = true
        · rw [List.filter_cons_of_pos qa]; simp only [List.length_cons]; omega
        · rw [List.filter_cons_of_neg qa]; exact ih
theorem hs_ext {hs ks : List Nat} {n : Nat} (h1 : hs.length = n) (h2 : ks.length = n) (h : ∀ i, i < n → hN hs i = hN ks i) : hs = ks := by
  apply List.ext_getElem (by omega)
  intro i a b
  have := h i (by omega)
  unfold hN at this
  rwa [List.getD_eq_getElem?_getD, List.getD_eq_getElem?_getD, List.getElem?_eq_getElem a, List.getElem?_eq_getElem b] at this
theorem reps_lt {w : Web} {hs : List Nat} (h : w.Ok) (q : HI w hs) (ne : finer w hs ≠ hs) : (reps w hs).length < (reps w (finer w hs)).length := by
  have q2 := q.step h
  -- an object that goes to another one
  obtain ⟨i, hi, hd⟩ : ∃ i, i < w.os.length ∧ hN (finer w hs) i ≠ hN hs i := by
    apply Classical.byContradiction
    intro z
    apply ne
    refine hs_ext q2.len q.len fun i hi => ?_
    apply Classical.byContradiction
    intro y
    exact z ⟨i, hi, y⟩
  have hl : hN (finer w hs) i < w.os.length := Nat.lt_of_le_of_lt (q2.le i hi) hi
  have finer_of : ∀ a b, a < w.os.length → b < w.os.length → hN (finer w hs) a = hN (finer w hs) b → hN hs a = hN hs b := fun a b ha hb e => by
    rw [finer_at ha, finer_at hb, lowG_iff ha hb] at e
    exact q.mono a b ha hb e
  have e1 : hN hs (hN (finer w hs) i) = hN hs i := finer_of _ i hl hi (q2.rep i hi)
  have hp : ∀ a, (decide (a < w.os.length) && decide (hN hs a = a)) = true → (decide (a < w.os.length) && decide (hN (finer w hs) a = a)) = true := by
    intro a ha
    simp only [Bool.and_eq_true, decide_eq_true_eq] at ha ⊢
    refine ⟨ha.1, ?_⟩
    have le2 := q2.le a ha.1
    have lt2 : hN (finer w hs) a < w.os.length := Nat.lt_of_le_of_lt le2 ha.1
    have e2 := finer_of _ a lt2 ha.1 (q2.rep a ha.1)
    have := q.le _ lt2
    omega
  have h1 : (decide (hN (finer w hs) i < w.os.length) && decide (hN (finer w hs) (hN (finer w hs) i) = hN (finer w hs) i)) = true := by
    simp only [Bool.and_eq_true, decide_eq_true_eq]
    exact ⟨hl, q2.rep i hi⟩
  have h2 : (decide (hN (finer w hs) i < w.os.length) && decide (hN hs (hN (finer w hs) i) = hN (finer w hs) i)) = false := by
    rw [e1, decide_eq_false (p := hN hs i = hN (finer w hs) i) (fun z => hd z.symm), Bool.and_false]
  have z := filter_lt (p := fun i => decide (i < w.os.length) && decide (hN hs i = i)) (q := fun i => decide (i < w.os.length) && decide (hN (finer w hs) i = i)) hp (List.mem_range.mpr hl) h1 h2
  have key : ∀ ks : List Nat, (List.range w.os.length).filter (fun i => decide (i < w.os.length) && decide (hN ks i = i)) = reps w ks := fun ks => by
    unfold reps
    apply List.filter_congr
    intro a ha
    rw [decide_eq_true (List.mem_range.mp ha), Bool.true_and]
  rw [key, key] at z
  exact z
theorem reps_le (w : Web) (hs : List Nat) : (reps w hs).length ≤ w.os.length := by
  unfold reps
  have := List.length_filter_le (fun i => decide (hN hs i = i)) (List.range w.os.length)
  simpa using this
/-- made finer as long as that changes something -/
def headsF (w : Web) : Nat → List Nat → List Nat
  | 0, hs => hs
  | k + 1, hs => if finer w hs = hs then hs else headsF w k (finer w hs)
def heads (w : Web) : List Nat := headsF w 70 (List.replicate w.os.length 0)
theorem headsF_fix {w : Web} (h : w.Ok) : ∀ (k : Nat) {hs : List Nat}, HI w hs → w.os.length < k + (reps w hs).length → HI w (headsF w k hs) ∧ finer w (headsF w k hs) = headsF w k hs
  | 0, hs, q, hk => absurd (reps_le w hs) (by omega)
  | k + 1, hs, q, hk => by
    unfold headsF
    by_cases e : finer w hs = hs
    · rw [if_pos e]; exact ⟨q, e⟩
    · rw [if_neg e]
      have := reps_lt h q e
      exact headsF_fix h k (q.step h) (by omega)
/-- what holds of the heads -/
structure HS (w : Web) (H : Nat → Nat) : Prop where
  le : ∀ i, i < w.os.length → H i ≤ i
  rep : ∀ i, i < w.os.length → H (H i) = H i
  iff : ∀ i j, i < w.os.length → j < w.os.length → (H i = H j ↔ sig w H i = sig w H j)
  max : ∀ S, Fine w S → ∀ i j, i < w.os.length → j < w.os.length → S i j → H i = H j
theorem heads_spec {w : Web} (h : w.Ok) : (heads w).length = w.os.length ∧ HS w (hN (heads w)) := by
  have h30 := h.o30
  obtain ⟨q, e⟩ := headsF_fix h 70 (HI.start w) (by omega)
  refine ⟨q.len, q.le, q.rep, fun i j hi hj => ?_, q.max⟩
  have e1 : ∀ a, a < w.os.length → hN (heads w) a = lowG (sig w (hN (heads w))) w.os.length a := fun a ha => by
    have := finer_at (hs := heads w) ha
    rw [show finer w (heads w) = heads w from e] at this
    exact this
  rw [e1 i hi, e1 j hj, lowG_iff hi hj]
end K01
set_option Elab.async false
set_option linter.all false
set_option maxRecDepth 100000
set_option maxHeartbeats 1000000
namespace K01
open PySem PySem.Spec PyProof.Rows L2 Sim Pg
/-! ### the least web -/
/-- each reference led to the head of what it leads to -/
def redir (w : Web) (H : Nat → Nat) : Web := ⟨w.os.map fun o => ⟨o.kind, mvHF H o.fs⟩, w.ns.map fun p => (p.1, H p.2)⟩
def lst (w : Web) : Web := trim (redir w (hN (heads w)))
section
variable {w w' : Web} {H H' : Nat → Nat}
theorem HS.lt (q : HS w H) {i : Nat} (hi : i < w.os.length) : H i < w.os.length := Nat.lt_of_le_of_lt (q.le i hi) hi
/-- the head of an object that can be changed is itself -/
theorem HS.chgw (q : HS w H) {i j : Nat} (hi : i < w.os.length) (hj : j < w.os.length) (e : H i = H j) (c : chgw w i) : i = j := sig_chg c ((q.iff i j hi hj).mp e)
theorem HS.same (q : HS w H) {i j : Nat} (hi : i < w.os.length) (hj : j < w.os.length) (e : H i = H j) : i = j ∨ (¬ K01.chgw w i ∧ ¬ K01.chgw w j ∧ kindAt w i = kindAt w j ∧ FR (fun a b => H a = H b) (fieldsAt w i) (fieldsAt w j)) := by
  by_cases ci : K01.chgw w i
  · exact .inl (q.chgw hi hj e ci)
  · by_cases cj : K01.chgw w j
    · exact .inl (q.chgw hj hi e.symm cj).symm
    · exact .inr ⟨ci, cj, (sig_of ci cj).mp ((q.iff i j hi hj).mp e)⟩
theorem names_all (h : w.Ok) {P : Str × Nat → Str × Nat → Prop} {g : Str × Nat → Str × Nat} (f : ∀ p : Str × Nat, p.2 < w.os.length → P p (g p)) : All2 P w.ns (w.ns.map g) := by
  have hl := h.lt
  generalize w.ns = l at hl
  induction l with
  | nil => exact .nil
  | cons p l ih => exact .cons (f p (hl p List.mem_cons_self)) (ih fun q hq => hl q (List.mem_cons_of_mem _ hq))
theorem bis_refl (h : w.Ok) : Bis w w (fun i j => i < w.os.length ∧ i = j) :=
  ⟨fun i j ⟨a, b⟩ => ⟨a, b ▸ a⟩, by
    have := names_all (P := fun p q => p.1 = q.1 ∧ p.2 < w.os.length ∧ p.2 = q.2) (g := id) h fun p hp => ⟨rfl, hp, rfl⟩
    rwa [List.map_id] at this, fun i j ⟨a, b⟩ => by subst b; exact ⟨rfl, FR.refl fun r hr => ⟨refs_lt h i r hr, rfl⟩⟩, fun i j j' ⟨_, b⟩ ⟨_, b'⟩ _ => b.symm.trans b', fun i i' j ⟨_, b⟩ ⟨_, b'⟩ _ => b.trans b'.symm⟩
/-! ### webs that look the same have the same least web -/
end
end K01
set_option Elab.async false
set_option linter.all false
set_option maxRecDepth 100000
set_option maxHeartbeats 1000000
namespace K01
open PySem PySem.Spec PyProof.Rows L2 Sim Pg
/-! ### webs in which no two objects are alike -/
def Red (w : Web) : Prop := ∀ S, Fine w S → ∀ i j, i < w.os.length → j < w.os.length → S i j → i = j
section
variable {w : Web} {H : Nat → Nat}
theorem HS.fine (q : HS w H) : Fine w (fun a b => H a = H b) := fun i j hi hj e => q.same hi hj e
theorem mvHF_id {fs : List (Str × Vl)} (h : ∀ r ∈ refs fs, H r = r) : mvHF H fs = fs := by
  induction fs with
  | nil => rfl
  | cons p fs ih =>
    obtain ⟨z, v⟩ := p
    cases v with
    | int i => simp only [mvHF, List.map_cons, mvH] at ih ⊢; rw [ih fun r hr => h r (by simpa [refs, vref] using hr)]
    | ref a =>
      simp only [mvHF, List.map_cons, mvH] at ih ⊢
      rw [ih fun r hr => h r (by simp only [refs, List.filterMap_cons, vref]; exact List.mem_cons_of_mem _ hr), h a (by simp [refs, vref])]
theorem redir_id (h : w.Ok) (e : ∀ i, i < w.os.length → H i = i) : redir w H = w := by
  have key : ∀ os' : List Ob, (∀ o ∈ os', o.Ok w.os.length) → os'.map (fun o => (⟨o.kind, mvHF H o.fs⟩ : Ob)) = os' := by
    intro os' ho
    induction os' with
    | nil => rfl
    | cons o os' ih =>
      rw [List.map_cons, ih fun x hx => ho x (List.mem_cons_of_mem _ hx)]
      have ob := ho o List.mem_cons_self
      rw [mvHF_id fun r hr => ?_]
      obtain ⟨p, hp, hv⟩ := List.mem_filterMap.mp hr
      have v := ob.vl p hp
      cases e2 : p.2 with
      | int i => rw [e2] at hv; cases hv
      | ref n =>
        rw [e2] at hv v
        have := Option.some.inj hv
        subst this
        exact e _ v
  unfold redir
  rw [key w.os h.ob]
  have : w.ns.map (fun p => (p.1, H p.2)) = w.ns := by
    have hl := h.lt
    generalize w.ns = l at hl
    induction l with
    | nil => rfl
    | cons p l ih => rw [List.map_cons, ih fun q hq => hl q (List.mem_cons_of_mem _ hq), e p.2 (hl p List.mem_cons_self)]
  rw [this]
theorem Red.lst (h : w.Ok) (r : Red w) : lst w = trim w := by
  obtain ⟨_, q⟩ := heads_spec h
  unfold K01.lst
  generalize hN (heads w) = H at q
  rw [redir_id h fun i hi => r _ q.fine (H i) i (q.lt hi) hi (q.rep i hi)]
theorem Red.set (h : w.Ok) (r : Red w) {n : Nat} (hn : n < w.os.length) (c : chgw w n) (k : Str) (x : Vl) : Red (setOb w n k x) := by
  intro S hS i j hi hj s
  have l1 : (setOb w n k x).os.length = w.os.length := by simp [setOb]
  rw [l1] at hi hj
  refine r (fun a b => a = b ∨ (S a b ∧ a < w.os.length ∧ b < w.os.length)) ?_ i j hi hj (.inr ⟨s, hi, hj⟩)
  intro a b ha hb q
  rcases q with e | ⟨q, _, _⟩
  · exact .inl e
  · rcases hS a b (by rw [l1]; exact ha) (by rw [l1]; exact hb) q with e | ⟨ca, cb, kk, f⟩
    · exact .inl e
    · rw [chgw_set hn] at ca cb
      have na : a ≠ n := fun z => ca (z ▸ c)
      have nb : b ≠ n := fun z => cb (z ▸ c)
      rw [kindAt_set hn, kindAt_set hn] at kk
      rw [fieldsAt_set hn, fieldsAt_set hn, if_neg na, if_neg nb] at f
      refine .inr ⟨ca, cb, kk, ?_⟩
      have e : ∀ r ∈ refs (fieldsAt w a) ++ refs (fieldsAt w b), r < w.os.length := fun r hr => by
        rcases List.mem_append.mp hr with hr | hr
        · exact refs_lt h a r hr
        · exact refs_lt h b r hr
      clear kk ca cb na nb
      generalize fieldsAt w a = fs at f e
      generalize fieldsAt w b = gs at f e
      induction f with
      | nil => exact .nil
      | @cons p p' fs gs r t ih =>
        obtain ⟨z, v⟩ := p
        obtain ⟨z', v'⟩ := p'
        obtain ⟨e1, r⟩ := r
        dsimp only at e1 r
        cases r with
        | int i => exact .cons ⟨e1, .int i⟩ (ih fun r hr => e r (by simpa [refs, vref] using hr))
        | @ref a' b' r =>
          refine .cons ⟨e1, .ref (.inr ⟨r, e a' (by simp [refs, vref]), e b' (by simp [refs, vref])⟩)⟩ (ih fun r hr => e r ?_)
          rcases List.mem_append.mp hr with hr | hr
          · exact List.mem_append_left _ (by simp only [refs, List.filterMap_cons, vref]; exact List.mem_cons_of_mem _ hr)
          · exact List.mem_append_right _ (by simp only [refs, List.filterMap_cons, vref]; exact List.mem_cons_of_mem _ hr)
/-! ### the least web is one of them -/
end
end K01
set_option Elab.async false
set_option linter.all false
set_option maxRecDepth 100000
set_option maxHeartbeats 1000000
namespace K01
open PySem PySem.Spec PyProof.Rows L2 Sim Pg
/-! ### whole scripts -/
end K01
set_option Elab.async false
set_option linter.all false
set_option maxRecDepth 100000
set_option maxHeartbeats 1000000
namespace K01
open PySem PySem.Spec PyProof.Rows L2 Sim Pg
/-! ### what is found from numbers, round by round (laws k50 and on) -/
def swp (w : Web) (a : List Nat) (n : Nat) : List Nat := addNew a (refs (fieldsAt w n))
/-- a list of numbers of the web without repetition -/
structure NL (w : Web) (a : List Nat) : Prop where
  nd : a.Nodup
  lt : ∀ n ∈ a, n < w.os.length
theorem NL.len {w : Web} {a : List Nat} (h : NL w a) : a.length ≤ w.os.length := len_nodup h.nd h.lt
theorem NL.swp {w : Web} (h : w.Ok) {a : List Nat} (b : NL w a) (n : Nat) : NL w (swp w a n) :=
  ⟨nodup_addNew b.nd, fun m hm => by
    rcases mem_addNew.mp hm with z | z
    · exact b.lt m z
    · exact refs_lt h n m z⟩
abbrev innB : MS := (cIf (bAnd (bVal (mApp sIsi (mCons (mVar 6) (mCons (mC (.raw (.ty "tuple"))) mNil)))) (bVal (mBin (sInn true) (mBin sIx (mVar 6) (mC (.int 0))) (mVar 2)))) (cExpr (mAppend (mVar 2) (mBin sIx (mVar 6) (mC (.int 0))))) cNil)
abbrev midB : MS := (cFor (mIter (mBin sIx (mBin sIx (mBin sIx (mVar 0) (mC (.int 0))) (mVar 4)) (mC (.int 1)))) (.many [5, 6]) innB)
theorem mid_w {w : Web} (h : w.Ok) {st : Sto} {e1 e3 : Option PV} {N : Lo → Sto → Prop} {R : PV → Sto → Prop} {B C : Lo → Sto → Prop} {l acc : List Nat} (hl : ∀ n ∈ l, n < w.os.length) (b : NL w acc) {x y z : Option PV}
    (fin : ∀ x y z, N [some w.pv, e1, some (.ref st.length), e3, x, y, z] (sN st (l.foldl (swp w) acc))) :
    wO (forGo (.one 4) midB (l.map ipv) [some w.pv, e1, some (.ref st.length), e3, x, y, z] (sN st acc)) N R B C := by
  have h30 := h.o30
  refine w_forGo (I := fun rem e s => ∃ (l' acc' : List Nat) (x y z : Option PV), rem = l'.map ipv ∧ e = [some w.pv, e1, some (.ref st.length), e3, x, y, z] ∧ s = sN st acc' ∧ l'.foldl (swp w) acc' = l.foldl (swp w) acc ∧ (∀ n ∈ l', n < w.os.length) ∧ NL w acc') ?_ ?_ ⟨l, acc, x, y, z, rfl, rfl, rfl, rfl, hl, b⟩
  · rintro v ys e s ⟨l', acc', x, y, z, hx, rfl, rfl, he, h1, b⟩
    cases l' with
    | nil => cases hx
    | cons n l' =>
      cases hx
      refine ⟨_, rfl, ?_⟩
      have hn := h1 n (List.mem_cons_self ..)
      have ho : w.os[n]? = some w.os[n] := List.getElem?_eq_getElem hn
      have ef : fieldsAt w n = w.os[n].fs := by simp only [fieldsAt, ho]
      simp_all_arith! [Web.pv, ix0s, ipv, obs_at ho, Ob.pv, ix1s]
      rw [← ef]
      exact inner2_w (k := w.os.length) h30 (refs_lt h n) b.lt b.nd fun x y => ⟨l', swp w acc' n, _, x, y, rfl, rfl, rfl, he, fun m hm => h1 m (List.mem_cons_of_mem _ hm), b.swp h n⟩
  · rintro e s ⟨l', acc', x, y, z, hx, rfl, rfl, he, h1, b⟩
    cases l' with
    | cons n l' => cases hx
    | nil =>
      have he : acc' = l.foldl (swp w) acc := he
      rw [he]
      exact fin x y z
end K01
set_option Elab.async false
set_option linter.all false
set_option maxRecDepth 100000
set_option maxHeartbeats 1000000
namespace K01
open PySem PySem.Spec PyProof.Rows L2 Sim Pg
/-! ### what two names share -/
theorem NL.one {w : Web} {n : Nat} (h : n < w.os.length) : NL w [n] := ⟨by simp, fun m hm => by rw [List.mem_singleton.mp hm]; exact h⟩
end K01
set_option Elab.async false
set_option linter.all false
set_option maxRecDepth 100000
set_option maxHeartbeats 1000000
namespace K01
open PySem PySem.Spec PyProof.Rows L2 Sim Pg
/-! ### the program's least web -/
end K01
set_option Elab.async false
set_option linter.all false
set_option maxRecDepth 100000
set_option maxHeartbeats 1000000
namespace K01
open PySem PySem.Spec PyProof.Rows L2 Sim Pg
/-! ### made finer, by the program -/
theorem lookN_app {k : NestedKey} : ∀ {a b : List (NestedKey × PV)}, lookN k (a ++ b) = (lookN k a).or (lookN k b)
  | [], b => rfl
  | (j, x) :: a, b => by
    simp only [List.cons_append, lookN]
    by_cases e : j = k
    · rw [if_pos e, if_pos e]; rfl
    · rw [if_neg e, if_neg e]; exact lookN_app
theorem range_cons' (j m : Nat) : rangeP (j : Nat) (m + 1) = ipv j :: rangeP ((j + 1 : Nat) : Int) m := by
  rw [rangeP_cons]
  rfl
end K01
set_option Elab.async false
set_option linter.all false
set_option maxRecDepth 100000
set_option maxHeartbeats 1000000
namespace K01
open PySem PySem.Spec PyProof.Rows L2 Sim Pg
/-! ### the least web, by the program -/
end K01
set_option Elab.async false
set_option linter.all false
set_option maxRecDepth 100000
set_option maxHeartbeats 1000000
namespace K01
open PySem PySem.Spec PyProof.Rows L2 Sim Pg
/-! ### statements executed by the law, rows drawn -/
/-! ### the turns of a law, of at most so many cells -/
/-! ### paths and statements, told by computing -/
end K01
set_option Elab.async false
set_option linter.all false
set_option maxRecDepth 100000
set_option maxHeartbeats 1000000
namespace K01
open PySem PySem.Spec PyProof.Rows L2 Sim Pg
/-! ### objects that are near one another, by the law -/
def vnear : Vl → Vl → Bool
  | .int i, .int j => decide (i = j)
  | .ref _, .ref _ => true
  | _, _ => false
def nearF : List (Str × Vl) → List (Str × Vl) → Bool
  | [], [] => true
  | p :: fs, q :: gs => (decide (p.1 = q.1) && vnear p.2 q.2) && nearF fs gs
  | _, _ => false
theorem nearF_iff : ∀ {fs gs : List (Str × Vl)}, nearF fs gs = true ↔ FR (fun _ _ => True) fs gs
  | [], [] => ⟨fun _ => .nil, fun _ => rfl⟩
  | p :: fs, [] => ⟨fun h => (by cases h), fun h => (by cases h)⟩
  | [], q :: gs => ⟨fun h => (by cases h), fun h => (by cases h)⟩
  | p :: fs, q :: gs => by
    simp only [nearF, Bool.and_eq_true, decide_eq_true_eq]
    constructor
    · rintro ⟨⟨a, b⟩, c⟩
      refine .cons ⟨a, ?_⟩ (nearF_iff.mp c)
      cases hv : p.2 with
      | int i => cases hu : q.2 with
        | int j => rw [hv, hu] at b; rw [of_decide_eq_true b]; exact .int j
        | ref _ => rw [hv, hu] at b; cases b
      | ref i => cases hu : q.2 with
        | int j => rw [hv, hu] at b; cases b
        | ref _ => exact .ref trivial
    · intro h
      cases h with
      | cons r t =>
        obtain ⟨a, b⟩ := r
        refine ⟨⟨a, ?_⟩, nearF_iff.mpr t⟩
        generalize hv : p.2 = v at b
        generalize hu : q.2 = u at b
        cases b with
        | int i => simp [vnear]
        | ref _ => rfl
def zipV (fs gs : List (Str × Vl)) : List PV := zipP (fs.map fpv) (gs.map fpv)
theorem zipV_map : ∀ fs gs : List (Str × Vl), zipV fs gs = (fs.zip gs).map fun pq => .wtp [fpv pq.1, fpv pq.2]
  | [], _ => rfl
  | _ :: _, [] => rfl
  | p :: fs, q :: gs => by
    show PV.wtp [fpv p, fpv q] :: zipV fs gs = _
    rw [zipV_map fs gs]; rfl
theorem nearF_len : ∀ {fs gs : List (Str × Vl)}, nearF fs gs = true → fs.length = gs.length := fun h => (nearF_iff.mp h).len
theorem nearF_and : ∀ {fs gs : List (Str × Vl)}, fs.length = gs.length → nearF fs gs = (((fs.zip gs).map fun pq => decide (pq.1.1 = pq.2.1)).all id && (fs.zip gs).all fun pq => vnear pq.1.2 pq.2.2)
  | [], [], _ => rfl
  | p :: fs, q :: gs, h => by
    simp only [nearF, List.zip_cons_cons, List.map_cons, List.all_cons, id, nearF_and (fs := fs) (gs := gs) (by simpa using h)]
    cases decide (p.1 = q.1) <;> cases vnear p.2 q.2 <;> simp
end K01
set_option Elab.async false
set_option linter.all false
set_option maxRecDepth 100000
set_option maxHeartbeats 1000000
namespace K01
open PySem PySem.Spec PyProof.Rows L2 Sim Pg
/-! ### a dict of pairs of numbers -/
def nk2 (i j : Nat) : NestedKey := .tup [.num (i : Nat), .num (j : Nat)]
def DDk (n m : Nat) (D : Nat → Nat → Bool) : List (NestedKey × PV) := (List.range m).map fun q => (nk2 (q / n) (q % n), .bl (D (q / n) (q % n)))
theorem nk2_inj {i j a b : Nat} (h : nk2 i j = nk2 a b) : i = a ∧ j = b := by
  simp only [nk2, NestedKey.tup.injEq, List.cons.injEq, NestedKey.num.injEq, and_true] at h
  omega
theorem DDk_succ (n m : Nat) (D : Nat → Nat → Bool) : DDk n (m + 1) D = DDk n m D ++ [(nk2 (m / n) (m % n), .bl (D (m / n) (m % n)))] := by
  unfold DDk
  rw [List.range_succ, List.map_append]; rfl
theorem dm {n i j : Nat} (hj : j < n) : (i * n + j) / n = i ∧ (i * n + j) % n = j := by
  have hn : 0 < n := by omega
  refine ⟨?_, ?_⟩
  · rw [Nat.mul_comm, Nat.mul_add_div hn, Nat.div_eq_of_lt hj, Nat.add_zero]
  · rw [Nat.mul_comm, Nat.mul_add_mod, Nat.mod_eq_of_lt hj]
theorem lookN_DDk {n : Nat} {D : Nat → Nat → Bool} {i j : Nat} (hj : j < n) : ∀ m, lookN (nk2 i j) (DDk n m D) = if i * n + j < m then some (.bl (D i j)) else none
  | 0 => rfl
  | m + 1 => by
    rw [DDk_succ, lookN_app, lookN_DDk hj m]
    have hn : 0 < n := by omega
    obtain ⟨d1, d2⟩ := dm (i := i) hj
    rcases Nat.lt_trichotomy (i * n + j) m with lt | eq | gt
    · rw [if_pos lt, if_pos (by omega)]; rfl
    · rw [if_neg (by omega), if_pos (by omega), ← eq, d1, d2]
      simp only [lookN, if_true, Option.or]
    · rw [if_neg (by omega), if_neg (by omega)]
      have : nk2 (m / n) (m % n) ≠ nk2 i j := fun e => by
        obtain ⟨e1, e2⟩ := nk2_inj e
        have := Nat.div_add_mod m n
        rw [e1, e2, Nat.mul_comm] at this
        omega
      simp only [lookN, if_neg this, Option.or]
def updD (D : Nat → Nat → Bool) (i j : Nat) (b : Bool) : Nat → Nat → Bool := fun x y => if x = i ∧ y = j then b else D x y
theorem putN_DDk {n m : Nat} {D : Nat → Nat → Bool} {i j : Nat} {b : Bool} (hj : j < n) (hm : i * n + j < m) : putN (DDk n m D) (nk2 i j) (.bl b) = DDk n m (updD D i j b) := by
  unfold putN
  rw [lookN_DDk hj, if_pos hm]
  simp only [Option.isSome_some, if_true]
  unfold DDk
  rw [List.map_map]
  refine List.map_congr_left fun q _ => ?_
  simp only [Function.comp]
  by_cases e : q / n = i ∧ q % n = j
  · obtain ⟨rfl, rfl⟩ := e
    simp [updD]
  · have : nk2 (q / n) (q % n) ≠ nk2 i j := fun h => e (nk2_inj h)
    rw [if_neg this]
    simp only [updD, if_neg e]
theorem DDk_len (n m : Nat) (D : Nat → Nat → Bool) : (DDk n m D).length = m := by simp [DDk]
theorem tk2 (i j : Nat) : toTK (.tup [.int (i : Nat), .int (j : Nat)]) = some (nk2 i j) := rfl
theorem putD_upd {n : Nat} {D : Nat → Nat → Bool} {i j : Nat} {b : Bool} (hj : j < n) (hn : n ≤ 100) (hi : i < n) (st : Sto) : sPutD (.ref st.length) (.tup [.int (i : Nat), .int (j : Nat)]) (.bl b) (st ++ [.dd (DDk n (n * n) D)]) = .ok () (st ++ [.dd (DDk n (n * n) (updD D i j b))]) := by
  have hb : n * n ≤ 100 * 100 := Nat.mul_le_mul hn hn
  have h1 : i * n + j < n * n := by
    have : (i + 1) * n ≤ n * n := Nat.mul_le_mul (by omega) (Nat.le_refl _)
    rw [Nat.add_mul, Nat.one_mul] at this
    omega
  have hf : fitN (DDk n (n * n) D).length = true := by rw [DDk_len]; exact decide_eq_true (by omega)
  unfold sPutD
  simp only [get_end, tk2, hf, if_true, set_end, putN_DDk hj h1]
theorem lk_full {n : Nat} {D : Nat → Nat → Bool} {i j : Nat} (hj : j < n) (hi : i < n) : lookN (nk2 i j) (DDk n (n * n) D) = some (.bl (D i j)) := by
  have hl : i * n + j < n * n := by
    have : (i + 1) * n ≤ n * n := Nat.mul_le_mul (by omega) (Nat.le_refl _)
    rw [Nat.add_mul, Nat.one_mul] at this
    omega
  rw [lookN_DDk hj, if_pos hl]
theorem ix_ref {n : Nat} {D : Nat → Nat → Bool} {i j : Nat} (hj : j < n) (hi : i < n) (st : Sto) : sIx (.ref st.length) (.tup [.int (i : Nat), .int (j : Nat)]) (st ++ [.dd (DDk n (n * n) D)]) = .ok (.bl (D i j)) (st ++ [.dd (DDk n (n * n) D)]) := by
  unfold sIx
  simp only [asD, asL, asN, get_end, tk2, lk_full hj hi]
/-! ### how many pairs are left -/
def cntD (n : Nat) (D : Nat → Nat → Bool) : Nat := ((List.range (n * n)).filter fun q => D (q / n) (q % n)).length
theorem filter_len_le {α : Type} {p q : α → Bool} (h : ∀ a, p a = true → q a = true) : ∀ l : List α, (l.filter p).length ≤ (l.filter q).length
  | [] => Nat.le_refl _
  | a :: l => by
    have ih := filter_len_le h l
    rw [List.filter_cons, List.filter_cons]
    cases hp : p a with
    | true => rw [h a hp]; simp; exact ih
    | false => cases q a <;> simp <;> omega
theorem filter_len_lt {α : Type} {p q : α → Bool} (h : ∀ a, p a = true → q a = true) : ∀ {l : List α} {a : α}, a ∈ l → p a = false → q a = true → (l.filter p).length < (l.filter q).length
  | b :: l, a, ha, hp, hq => by
    have le := filter_len_le h l
    rw [List.filter_cons, List.filter_cons]
    rcases List.mem_cons.mp ha with rfl | ha
    · rw [hp, hq]; simp; omega
    · have ih := filter_len_lt h ha hp hq
      cases hb : p b with
      | true => rw [h b hb]; simp; exact ih
      | false => cases q b <;> simp <;> omega
theorem updD_le {D : Nat → Nat → Bool} {i j : Nat} {x y : Nat} (h : updD D i j false x y = true) : D x y = true := by
  unfold updD at h
  split at h
  · cases h
  · exact h
theorem cnt_le (n : Nat) (D : Nat → Nat → Bool) (i j : Nat) : cntD n (updD D i j false) ≤ cntD n D := filter_len_le (fun _ h => updD_le h) _
theorem cnt_lt {n : Nat} {D : Nat → Nat → Bool} {i j : Nat} (hi : i < n) (hj : j < n) (h : D i j = true) : cntD n (updD D i j false) < cntD n D := by
  have hl : i * n + j < n * n := by
    have : (i + 1) * n ≤ n * n := Nat.mul_le_mul (by omega) (Nat.le_refl _)
    rw [Nat.add_mul, Nat.one_mul] at this
    omega
  obtain ⟨d1, d2⟩ := dm (i := i) hj
  refine filter_len_lt (fun _ h => updD_le h) (List.mem_range.mpr hl) ?_ ?_
  · rw [d1, d2]; simp [updD]
  · rw [d1, d2]; exact h
end K01
set_option Elab.async false
set_option linter.all false
set_option maxRecDepth 100000
set_option maxHeartbeats 1000000
namespace K01
open PySem PySem.Spec PyProof.Rows L2 Sim Pg
/-! ### the greatest relation, by striking pairs -/
def good1 (D : Nat → Nat → Bool) (pq : (Str × Vl) × (Str × Vl)) : Prop := ∀ r s, pq.1.2 = .ref r → pq.2.2 = .ref s → D r s = true
def CL (F : Nat → List (Str × Vl)) (D : Nat → Nat → Bool) (a b : Nat) : Prop := ∀ pq ∈ (F a).zip (F b), good1 D pq
structure Inv (n : Nat) (H : Nat → Nat) (D0 D : Nat → Nat → Bool) : Prop where
  sym : ∀ i j, D i j = D j i
  dg : ∀ i, i < n → D i i = true
  top : ∀ i j, i < n → j < n → H i = H j → D i j = true
  sub : ∀ i j, i < n → j < n → D i j = true → D0 i j = true
theorem Inv.strike {n : Nat} {H : Nat → Nat} {D0 D : Nat → Nat → Bool} (v : Inv n H D0 D) {i j : Nat} (hij : i ≠ j) (hH : H i ≠ H j) : Inv n H D0 (updD (updD D i j false) j i false) := by
  have val : ∀ a b, updD (updD D i j false) j i false a b = if (a = j ∧ b = i) ∨ (a = i ∧ b = j) then false else D a b := fun a b => by
    unfold updD
    by_cases h1 : a = j ∧ b = i
    · rw [if_pos h1, if_pos (.inl h1)]
    · rw [if_neg h1]
      by_cases h2 : a = i ∧ b = j
      · rw [if_pos h2, if_pos (.inr h2)]
      · rw [if_neg h2, if_neg (by rintro (h | h) <;> contradiction)]
  refine ⟨fun a b => ?_, fun a ha => ?_, fun a b ha hb h => ?_, fun a b ha hb h => ?_⟩
  · rw [val, val, v.sym a b]
    by_cases h : (a = j ∧ b = i) ∨ (a = i ∧ b = j)
    · rw [if_pos h, if_pos (by rcases h with ⟨h1, h2⟩ | ⟨h1, h2⟩; exact .inr ⟨h2, h1⟩; exact .inl ⟨h2, h1⟩)]
    · rw [if_neg h, if_neg (by rintro (⟨h1, h2⟩ | ⟨h1, h2⟩); exact h (.inr ⟨h2, h1⟩); exact h (.inl ⟨h2, h1⟩))]
  · rw [val, if_neg (by rintro (⟨h1, h2⟩ | ⟨h1, h2⟩) <;> omega)]
    exact v.dg a ha
  · rw [val, if_neg (by rintro (⟨rfl, rfl⟩ | ⟨rfl, rfl⟩); exact hH h.symm; exact hH h)]
    exact v.top a b ha hb h
  · rw [val] at h
    split at h
    · cases h
    · exact v.sub a b ha hb h
section
variable {n : Nat} {H : Nat → Nat} {T : PV} {P : Nat → PV} {C : Nat → Bool} {Nr : Nat → Nat → Bool} {F : Nat → List (Str × Vl)} {st : Sto}
def D0 (C : Nat → Bool) (Nr : Nat → Nat → Bool) (i j : Nat) : Bool := if !(C i || C j) && Nr i j then true else decide (i = j)
abbrev eA (T : PV) (L : Nat) (v2 v3 v4 v5 v6 v7 v8 : Option PV) : Lo := [some T, some (.ref L), v2, v3, v4, v5, v6, v7, v8]
end
end K01
set_option Elab.async false
set_option linter.all false
set_option maxRecDepth 100000
set_option maxHeartbeats 1000000
namespace K01
open PySem PySem.Spec PyProof.Rows L2 Sim Pg
theorem near_all {fs gs : List (Str × Vl)} (h : nearF fs gs = true) : ∀ pq ∈ fs.zip gs, vnear pq.1.2 pq.2.2 = true := by
  rw [nearF_and (nearF_len h), Bool.and_eq_true] at h
  exact List.all_eq_true.mp h.2
section
variable {n : Nat} {H : Nat → Nat} {T : PV} {P : Nat → PV} {C : Nat → Bool} {Nr : Nat → Nat → Bool} {F : Nat → List (Str × Vl)} {st : Sto}
theorem zip_w (hn : n ≤ 100) (ln : ∀ s, sLen [T] s = .ok (.int (n : Nat)) s) (ix : ∀ i, i < n → ∀ s, sIx T (.int (i : Nat)) s = .ok (P i) s)
  (fl : ∀ i, i < n → ∀ s, sIx (P i) (.int 1) s = .ok (.tup ((F i).map fpv)) s) (rb : ∀ i, i < n → ∀ p ∈ F i, ∀ r, p.2 = .ref r → r < n)
  (nf : ∀ i j, i < n → j < n → i ≠ j → D0 C Nr i j = true → nearF (F i) (F j) = true)
  (hs : ∀ i j, i < n → j < n → i ≠ j → H i = H j → ∀ pq ∈ (F i).zip (F j), ∀ r s, pq.1.2 = .ref r → pq.2.2 = .ref s → H r = H s)
  {D : Nat → Nat → Bool} {i j : Nat} (hin : i < n) (hji : j < i) {D' : Nat → Nat → Bool} {c0 : Bool} (v' : Inv n H (D0 C Nr) D') (hD : D' i j = true) (hc1 : c0 = true → cntD n D' < cntD n D) (hc0 : c0 = false → D' = D) (nv : ∀ pq ∈ (F i).zip (F j), vnear pq.1.2 pq.2.2 = true) (w5 w6 w7 w8 : Option PV) {R : PV → Sto → Prop} {B Cc : Lo → Sto → Prop} :
  wO (forGo (.many [7, 8])
  (cIf (bAnd (bVal (mApp sIsi (mCons (mBin sIx (mVar 7) (mC (.int 1))) (mCons (mC (.raw (.ty "tuple"))) mNil)))) (bNot (bVal (mBin sIx (mVar 1) (mApp sTup (mCons (mBin sIx (mBin sIx (mVar 7) (mC (.int 1))) (mC (.int 0))) (mCons (mBin sIx (mBin sIx (mVar 8) (mC (.int 1))) (mC (.int 0))) mNil)))))))
  (cSeq (cPutD (mVar 1) (mApp sTup (mCons (mVar 2) (mCons (mVar 4) mNil))) (mC (.bl false)))
  (cSeq (cPutD (mVar 1) (mApp sTup (mCons (mVar 4) (mCons (mVar 2) mNil))) (mC (.bl false)))
  (cSet (.one 3) (mC (.bl true)))))
  cNil) (((F i).zip (F j)).map fun pq => .wtp [fpv pq.1, fpv pq.2]) (eA T st.length (some (.int (i : Nat))) (some (.bl c0)) (some (.int (j : Nat))) w5 w6 w7 w8) (st ++ [.dd (DDk n (n * n) D')]))
  (fun e s => ∃ D' c w7 w8, e = eA T st.length (some (.int (i : Nat))) (some (.bl c)) (some (.int (j : Nat))) w5 w6 w7 w8 ∧ s = st ++ [.dd (DDk n (n * n) D')] ∧ Inv n H (D0 C Nr) D' ∧ (c = true → cntD n D' < cntD n D) ∧ (c = false → c0 = false ∧ D' = D ∧ CL F D i j)) R B Cc := by
  have hjn : j < n := by omega
  have pt : ∀ (a b : Nat) s, sTup [.int (a : Nat), .int (b : Nat)] s = .ok (.tup [.int (a : Nat), .int (b : Nat)]) s := fun _ _ _ => rfl
  refine w_forGo (I := fun rem e s => ∃ (D' : Nat → Nat → Bool) (c : Bool) (l' : List ((Str × Vl) × (Str × Vl))) (w7 w8 : Option PV), rem = l'.map (fun pq => .wtp [fpv pq.1, fpv pq.2]) ∧ (∀ pq ∈ l', pq ∈ (F i).zip (F j)) ∧ e = eA T st.length (some (.int (i : Nat))) (some (.bl c)) (some (.int (j : Nat))) w5 w6 w7 w8 ∧ s = st ++ [.dd (DDk n (n * n) D')] ∧ Inv n H (D0 C Nr) D' ∧ (c = true → cntD n D' < cntD n D) ∧ (c = false → c0 = false ∧ D' = D ∧ D i j = true ∧ ∀ pq ∈ (F i).zip (F j), pq ∈ l' ∨ good1 D pq)) ?_ ?_ ⟨D', c0, (F i).zip (F j), _, _, rfl, fun _ h => h, rfl, rfl, v', hc1, fun h => ⟨h, hc0 h, hc0 h ▸ hD, fun _ h => .inl h⟩⟩
  · clear hD v' hc1 hc0
    rintro x xs e s ⟨D', c, l', w7, w8, hx, hsub, rfl, rfl, v', hc1, hc0⟩
    cases l' with
    | nil => cases hx
    | cons pq l' =>
      cases hx
      have hpq := hsub pq (List.mem_cons_self ..)
      have hvn := nv pq hpq
      have hsub' : ∀ pq ∈ l', pq ∈ (F i).zip (F j) := fun x hx => hsub x (List.mem_cons_of_mem _ hx)
      obtain ⟨⟨z, a⟩, ⟨y, b⟩⟩ := pq
      refine ⟨_, rfl, ?_⟩
      simp only [setMany]
      simp_all_arith! [fld1, isi_vl]
      cases a with
      | int k =>
        have r1 : isRef (some (Vl.int k)) = false := rfl
        simp_all_arith! [r1]
        exact ⟨D', c, l', _, _, rfl, hsub', rfl, rfl, v', hc1, fun h => ⟨(hc0 h).1, (hc0 h).2.1, (hc0 h).2.2.1, fun x hx => by
          rcases (hc0 h).2.2.2 x hx with e | e
          · rcases List.mem_cons.mp e with rfl | e
            · exact .inr fun r s h1 => by cases h1
            · exact .inl e
          · exact .inr e⟩⟩
      | ref r =>
        cases b with
        | int k => cases hvn
        | ref s =>
          have r1 : isRef (some (Vl.ref r)) = true := rfl
          obtain ⟨m1, m2⟩ := List.of_mem_zip hpq
          have hr := rb i hin _ m1 r rfl
          have hs' := rb j hjn _ m2 s rfl
          have p1 : ∀ (r : Nat) (s : Sto), sIx (Vl.pv (.ref r)) (.int 0) s = .ok (.int (r : Nat)) s := fun _ _ => rfl
          have ir := ix_ref (D := D') hs' hr st
          simp_all_arith! [r1, fld1, p1, pt, ir]
          cases hD : D' r s with
          | true =>
            simp_all_arith! [Sim.wR_ok]
            exact ⟨D', c, l', _, _, rfl, hsub', rfl, rfl, v', hc1, fun h => ⟨(hc0 h).1, (hc0 h).2.1, (hc0 h).2.2.1, fun x hx => by
              rcases (hc0 h).2.2.2 x hx with e | e
              · rcases List.mem_cons.mp e with rfl | e
                · refine .inr fun r' s' h1 h2 => ?_
                  cases h1; cases h2
                  rw [← (hc0 h).2.1]; exact hD
                · exact .inl e
              · exact .inr e⟩⟩
          | false =>
            have hH : H i ≠ H j := fun e => by
              have := hs i j hin hjn (by omega) e _ hpq r s rfl rfl
              have := v'.top r s hr hs' this
              rw [hD] at this; cases this
            have v2 := v'.strike (by omega : i ≠ j) hH
            have q1 := putD_upd (D := D') (b := false) hjn hn hin st
            have q2 := putD_upd (D := updD D' i j false) (b := false) hin hn hjn st
            simp_all_arith! [wO_putD, pt, q1, q2]
            refine ⟨_, true, l', _, _, rfl, hsub', rfl, rfl, v2, fun _ => ?_, nofun⟩
            have l1 := cnt_le n (updD D' i j false) j i
            cases hcc : c with
            | true =>
              have := hc1 hcc
              have := cnt_le n D' i j
              omega
            | false =>
              obtain ⟨_, z1, z2, _⟩ := hc0 hcc
              rw [z1] at l1 ⊢
              have := cnt_lt hin hjn z2
              omega
  · rintro e s ⟨D', c, l', w7, w8, hx, hsub, rfl, rfl, v', hc1, hc0⟩
    cases l' with
    | cons pq l' => cases hx
    | nil =>
      refine ⟨D', c, _, _, rfl, rfl, v', hc1, fun h => ⟨(hc0 h).1, (hc0 h).2.1, fun pq hpq => ?_⟩⟩
      rcases (hc0 h).2.2.2 pq hpq with e | e
      · cases e
      · exact e
theorem rg_i {i : Nat} (hi : i ≤ 100) (T : PV) (L : Nat) (v3 v4 v5 v6 v7 v8 : Option PV) (s : Sto) : mRange1 (mVar 2) (eA T L (some (.int (i : Nat))) v3 v4 v5 v6 v7 v8) s = .ok (rangeP 0 i) s := by
  have h1 : mVar 2 (eA T L (some (.int (i : Nat))) v3 v4 v5 v6 v7 v8) s = .ok (.int (i : Nat)) s := rfl
  have h2 := range_ok (i : Nat) (by omega) (by omega)
  unfold mRange1
  rw [h1, Res.bind_ok]
  simp only [h2, if_true, Int.toNat_natCast]
theorem row_w (hn : n ≤ 100) (ln : ∀ s, sLen [T] s = .ok (.int (n : Nat)) s) (ix : ∀ i, i < n → ∀ s, sIx T (.int (i : Nat)) s = .ok (P i) s)
  (fl : ∀ i, i < n → ∀ s, sIx (P i) (.int 1) s = .ok (.tup ((F i).map fpv)) s) (rb : ∀ i, i < n → ∀ p ∈ F i, ∀ r, p.2 = .ref r → r < n)
  (nf : ∀ i j, i < n → j < n → i ≠ j → D0 C Nr i j = true → nearF (F i) (F j) = true)
  (hs : ∀ i j, i < n → j < n → i ≠ j → H i = H j → ∀ pq ∈ (F i).zip (F j), ∀ r s, pq.1.2 = .ref r → pq.2.2 = .ref s → H r = H s)
  {D : Nat → Nat → Bool} {i : Nat} (hin : i < n) {D' : Nat → Nat → Bool} {c0 : Bool} (v' : Inv n H (D0 C Nr) D') (hc1 : c0 = true → cntD n D' < cntD n D) (hc0 : c0 = false → D' = D) (w4 w5 w6 w7 w8 : Option PV) {R : PV → Sto → Prop} {B Cc : Lo → Sto → Prop} :
  wO (cFor (mRange1 (mVar 2)) (.one 4)
  (cIf (bVal (mBin sIx (mVar 1) (mApp sTup (mCons (mVar 2) (mCons (mVar 4) mNil)))))
  (cFor (mZip (mBin sIx (mBin sIx (mVar 0) (mVar 2)) (mC (.int 1))) (mBin sIx (mBin sIx (mVar 0) (mVar 4)) (mC (.int 1)))) (.many [7, 8])
  (cIf (bAnd (bVal (mApp sIsi (mCons (mBin sIx (mVar 7) (mC (.int 1))) (mCons (mC (.raw (.ty "tuple"))) mNil)))) (bNot (bVal (mBin sIx (mVar 1) (mApp sTup (mCons (mBin sIx (mBin sIx (mVar 7) (mC (.int 1))) (mC (.int 0))) (mCons (mBin sIx (mBin sIx (mVar 8) (mC (.int 1))) (mC (.int 0))) mNil)))))))
  (cSeq (cPutD (mVar 1) (mApp sTup (mCons (mVar 2) (mCons (mVar 4) mNil))) (mC (.bl false)))
  (cSeq (cPutD (mVar 1) (mApp sTup (mCons (mVar 4) (mCons (mVar 2) mNil))) (mC (.bl false)))
  (cSet (.one 3) (mC (.bl true)))))
  cNil))
  cNil) (eA T st.length (some (.int (i : Nat))) (some (.bl c0)) w4 w5 w6 w7 w8) (st ++ [.dd (DDk n (n * n) D')]))
  (fun e s => ∃ D' c w4 w7 w8, e = eA T st.length (some (.int (i : Nat))) (some (.bl c)) w4 w5 w6 w7 w8 ∧ s = st ++ [.dd (DDk n (n * n) D')] ∧ Inv n H (D0 C Nr) D' ∧ (c = true → cntD n D' < cntD n D) ∧ (c = false → c0 = false ∧ D' = D ∧ ∀ b, b < i → D i b = true → CL F D i b)) R B Cc := by
  rw [wO_for, rg_i (by omega), wR_ok]
  refine w_forGo (I := fun rem e s => ∃ (D' : Nat → Nat → Bool) (c : Bool) (j m' : Nat) (w4 w7 w8 : Option PV), rem = rangeP (j : Nat) m' ∧ j + m' = i ∧ e = eA T st.length (some (.int (i : Nat))) (some (.bl c)) w4 w5 w6 w7 w8 ∧ s = st ++ [.dd (DDk n (n * n) D')] ∧ Inv n H (D0 C Nr) D' ∧ (c = true → cntD n D' < cntD n D) ∧ (c = false → c0 = false ∧ D' = D ∧ ∀ b, b < j → D i b = true → CL F D i b)) ?_ ?_ ⟨D', c0, 0, i, _, _, _, rfl, by omega, rfl, rfl, v', hc1, fun h => ⟨h, hc0 h, fun b h => absurd h (Nat.not_lt_zero _)⟩⟩
  · clear v' hc1 hc0
    rintro x xs e s ⟨D', c, j, m', w4, w7, w8, hr, hj, rfl, rfl, v', hc1, hc0⟩
    cases m' with
    | zero => cases hr
    | succ m' =>
      rw [range_cons'] at hr
      cases hr
      have hji : j < i := by omega
      have hjn : j < n := by omega
      refine ⟨_, rfl, ?_⟩
      have ei := ix i hin
      have ej := ix j hjn
      have fi := fl i hin
      have fj := fl j hjn
      have pt : ∀ (a b : Nat) s, sTup [.int (a : Nat), .int (b : Nat)] s = .ok (.tup [.int (a : Nat), .int (b : Nat)]) s := fun _ _ _ => rfl
      have ir := ix_ref (D := D') hjn hin st
      simp only [ipv]
      simp_all_arith! [pt, ir]
      cases hD : D' i j with
      | false =>
        simp_all_arith! [Sim.wR_ok]
        refine ⟨D', c, j + 1, m', _, _, _, rfl, by omega, rfl, rfl, v', hc1, fun h => ⟨(hc0 h).1, (hc0 h).2.1, fun b hb hDb => ?_⟩⟩
        rcases Nat.lt_or_ge b j with lt | ge
        · exact (hc0 h).2.2 b lt hDb
        · have : b = j := by omega
          subst this
          rw [(hc0 h).2.1] at hD
          rw [hD] at hDb; cases hDb
      | true =>
        have zp : ∀ (w3 w5 w6 w7 w8 : Option PV) (s : Sto), mZip (mBin sIx (mBin sIx (mVar 0) (mVar 2)) (mC (.int 1))) (mBin sIx (mBin sIx (mVar 0) (mVar 4)) (mC (.int 1))) [some T, some (.ref st.length), some (.int (i : Nat)), w3, some (.int (j : Nat)), w5, w6, w7, w8] s = .ok (((F i).zip (F j)).map fun pq => .wtp [fpv pq.1, fpv pq.2]) s := fun w3 w5 w6 w7 w8 s => by
          rw [← zipV_map]
          simp_arith! [mZip, ei, ej, fi, fj, zipV]
        have nv := near_all (nf i j hin hjn (by omega) (v'.sub i j hin hjn hD))
        simp_all_arith! [zp]
        refine (zip_w (st := st) hn ln ix fl rb nf hs hin hji v' hD hc1 (fun h => (hc0 h).2.1) nv w5 w6 w7 w8).imp ?_ (fun _ _ h => h)
        rintro e s ⟨D2, c2, w7, w8, rfl, rfl, v2, k1, k0⟩
        refine ⟨D2, c2, j + 1, m', _, _, _, rfl, by omega, rfl, rfl, v2, k1, fun h => ⟨(hc0 (k0 h).1).1, (k0 h).2.1, fun b hb hDb => ?_⟩⟩
        rcases Nat.lt_or_ge b j with lt | ge
        · exact (hc0 (k0 h).1).2.2 b lt hDb
        · have : b = j := by omega
          subst this
          exact (k0 h).2.2
  · rintro e s ⟨D', c, j, m', w4, w7, w8, hr, hj, rfl, rfl, v', hc1, hc0⟩
    have hm : m' = 0 := by
      cases m' with
      | zero => rfl
      | succ m' => rw [range_cons'] at hr; cases hr
    subst hm
    have hj' : j = i := by omega
    subst hj'
    exact ⟨D', c, _, _, _, rfl, rfl, v', hc1, hc0⟩
end
end K01
set_option Elab.async false
set_option linter.all false
set_option maxRecDepth 100000
set_option maxHeartbeats 1000000
namespace K01
open PySem PySem.Spec PyProof.Rows L2 Sim Pg
/-! ### the law's own relation -/
def Cw (w : Web) (i : Nat) : Bool := decide (chgw w i)
def Nw (w : Web) (i j : Nat) : Bool := decide (kindAt w i = kindAt w j) && nearF (fieldsAt w i) (fieldsAt w j)
theorem nearF_sym (fs gs : List (Str × Vl)) : nearF fs gs = nearF gs fs := by
  have : ∀ {fs gs : List (Str × Vl)}, nearF fs gs = true → nearF gs fs = true := fun h => nearF_iff.mpr ((nearF_iff.mp h).flip.imp fun _ _ _ => trivial)
  cases h : nearF fs gs with
  | true => exact (this h).symm
  | false =>
    cases h' : nearF gs fs with
    | false => rfl
    | true => rw [this h'] at h; cases h
theorem D0_sym (w : Web) (i j : Nat) : D0 (Cw w) (Nw w) i j = D0 (Cw w) (Nw w) j i := by
  have e : Nw w i j = Nw w j i := by
    unfold Nw
    rw [nearF_sym]
    congr 1
    by_cases e : kindAt w i = kindAt w j
    · rw [decide_eq_true e, decide_eq_true e.symm]
    · rw [decide_eq_false e, decide_eq_false fun h => e h.symm]
  have e2 : decide (i = j) = decide (j = i) := by
    by_cases e : i = j
    · rw [decide_eq_true e, decide_eq_true e.symm]
    · rw [decide_eq_false e, decide_eq_false fun h => e h.symm]
  unfold D0
  rw [e, e2, Bool.or_comm]
section
variable {w : Web} {H : Nat → Nat}
theorem sig_split (q : HS w H) {i j : Nat} (hi : i < w.os.length) (hj : j < w.os.length) (ne : i ≠ j) (e : H i = H j) : ¬ chgw w i ∧ ¬ chgw w j ∧ kindAt w i = kindAt w j ∧ FR (fun a b => H a = H b) (fieldsAt w i) (fieldsAt w j) := by
  have s := (q.iff i j hi hj).mp e
  unfold sig at s
  by_cases c1 : chgw w i
  · rw [if_pos c1] at s
    by_cases c2 : chgw w j
    · rw [if_pos c2] at s; cases s; exact absurd rfl ne
    · rw [if_neg c2] at s; cases s
  · rw [if_neg c1] at s
    by_cases c2 : chgw w j
    · rw [if_pos c2] at s; cases s
    · rw [if_neg c2] at s
      simp only [Sig.shp.injEq] at s
      exact ⟨c1, c2, s.1, mvHF_iff.mp s.2⟩
theorem inv_start (q : HS w H) : Inv w.os.length H (D0 (Cw w) (Nw w)) (D0 (Cw w) (Nw w)) := by
  refine ⟨D0_sym w, fun i _ => ?_, fun i j hi hj e => ?_, fun _ _ _ _ h => h⟩
  · unfold D0; split <;> simp
  · by_cases ne : i = j
    · unfold D0; split <;> simp [ne]
    · obtain ⟨c1, c2, k, f⟩ := sig_split q hi hj ne e
      have : (!(Cw w i || Cw w j) && Nw w i j) = true := by
        simp only [Cw, Nw, decide_eq_false c1, decide_eq_false c2, decide_eq_true k, nearF_iff.mpr (f.imp fun _ _ _ => trivial), Bool.or_false, Bool.not_false, Bool.and_true]
      unfold D0
      rw [if_pos this]
def Dh (H : Nat → Nat) (i j : Nat) : Bool := decide (H i = H j)
end
end K01
set_option Elab.async false
set_option linter.all false
set_option maxRecDepth 100000
set_option maxHeartbeats 1000000
namespace K01
open PySem PySem.Spec PyProof.Rows L2 Sim Pg
/-! ### the law's own least web -/
section
variable {W : Web} {H : Nat → Nat}
abbrev eL (Y X : PV) (n : Nat) (H : Nat → Nat) (v3 v4 v5 v6 v7 v8 v9 v10 v11 : Option PV) : Lo := [some Y, some X, some (.dd (DDk n (n * n) (Dh H))), v3, v4, v5, v6, v7, v8, v9, v10, v11]
end
end K01
set_option Elab.async false
set_option linter.all false
set_option maxRecDepth 100000
set_option maxHeartbeats 1000000
namespace K01
open PySem PySem.Spec PyProof.Rows L2 Sim Pg
/-! ### webs that cover another one -/
def CovO (w : Web) (φ : Nat → Nat) (N i : Nat) (o : Ob) : Prop := kindAt w i = o.kind ∧ FR (fun a b => b < N ∧ φ b = a) (fieldsAt w i) o.fs
structure CovU (w : Web) (φ : Nat → Nat) (os : List Ob) (ns : List (Str × Nat)) : Prop where
  lt : ∀ j, j < os.length → φ j < w.os.length
  nm : All2 (fun (p q : Str × Nat) => p.1 = q.1 ∧ q.2 < os.length ∧ φ q.2 = p.2) w.ns ns
  ob : ∀ j o, os[j]? = some o → CovO w φ os.length (φ j) o
theorem All2.set {α β : Type} {R : α → β → Prop} : ∀ {as : List α} {bs : List β} {i : Nat} {a : α} {b : β}, All2 R as bs → as[i]? = some a → R a b → All2 R as (bs.set i b)
  | _, _, _, _, _, .nil, e, _ => by simp at e
  | _, _, 0, a, b, .cons r t, e, q => by
    simp only [List.getElem?_cons_zero, Option.some.injEq] at e
    subst e; exact .cons q t
  | _, _, i + 1, a, b, .cons r t, e, q => .cons r (All2.set t (by simpa using e) q)
section
variable {w : Web} {φ : Nat → Nat} {os : List Ob} {ns : List (Str × Nat)}
theorem FR.words {R : Nat → Nat → Prop} {fs gs : List (Str × Vl)} (h : FR R fs gs) : fs.map (·.1) = gs.map (·.1) := All2.map_eq (fun _ _ r => r.1) h
theorem CovU.ok (h : w.Ok) (c : CovU w φ os ns) (h1 : 1 ≤ os.length) (h30 : os.length ≤ 30) : (⟨os, ns⟩ : Web).Ok := by
  have hw : w.ns.map (·.1) = ns.map (·.1) := All2.map_eq (fun _ _ r => r.1) c.nm
  have hl := c.nm.len
  refine ⟨h1, h30, fun o ho => ?_, by rw [← hl]; exact h.n1, by rw [← hl]; exact h.n6, by rw [← hw]; exact h.up, fun p hp => ?_, fun p hp => ?_⟩
  · obtain ⟨j, hj, e⟩ := List.getElem_of_mem ho
    have hj' : j < os.length := hj
    obtain ⟨q1, q2⟩ := c.ob j o (by rw [List.getElem?_eq_getElem hj']; exact congrArg some e)
    have hlt := c.lt j hj'
    have e1 : w.os[φ j]? = some w.os[φ j] := List.getElem?_eq_getElem hlt
    obtain ⟨k1, k2⟩ := kind_at e1
    have ob := h.ob _ (List.getElem_mem hlt)
    rw [k1] at q1
    rw [k2] at q2
    have hwd := q2.words
    refine ⟨by rw [← q1]; exact ob.kd, by rw [← q2.len]; exact ob.f4, by rw [← hwd]; exact ob.up, fun p hp => ?_, fun p hp => ?_⟩
    · have : p.1 ∈ o.fs.map (·.1) := List.mem_map.mpr ⟨p, hp, rfl⟩
      rw [← hwd] at this
      obtain ⟨q, hq, e⟩ := List.mem_map.mp this
      rw [← e]; exact ob.wd q hq
    · obtain ⟨q, hq, r⟩ := q2.flip.memL p hp
      have r2 := r.2
      have vo := ob.vl q hq
      generalize p.2 = v at r2 ⊢
      generalize q.2 = u at r2 vo
      cases r2 with
      | int i => exact vo
      | ref z => exact z.1
  · have : p.1 ∈ ns.map (·.1) := List.mem_map.mpr ⟨p, hp, rfl⟩
    rw [← hw] at this
    obtain ⟨q, hq, e⟩ := List.mem_map.mp this
    rw [← e]; exact h.wd q hq
  · obtain ⟨q, hq, r⟩ := (All2.flip c.nm).memL p hp
    exact r.2.1
end
end K01
set_option Elab.async false
set_option linter.all false
set_option maxRecDepth 100000
set_option maxHeartbeats 1000000
namespace K01
open PySem PySem.Spec PyProof.Rows L2 Sim Pg
/-! ### a web split by the law: the store -/
end K01
set_option Elab.async false
set_option linter.all false
set_option maxRecDepth 100000
set_option maxHeartbeats 1000000
namespace K01
open PySem PySem.Spec PyProof.Rows L2 Sim Pg
/-! ### a web split by the law: its loops -/
end K01
set_option Elab.async false
set_option linter.all false
set_option maxRecDepth 100000
set_option maxHeartbeats 1000000
namespace K01
open PySem PySem.Spec PyProof.Rows L2 Sim Pg
/-! ### a web split by the law -/
section
variable {st : Sto} {k : Nat} {w : Web}
/-- at most so many objects more, each of them a copy of one that was there -/
def Spl (w w' : Web) (m : Nat) : Prop := w'.os.length ≤ w.os.length + m ∧ ∃ φ : Nat → Nat, (∀ j, j < w.os.length → φ j = j) ∧ Bis w w' (fun i j => j < w'.os.length ∧ φ j = i)
theorem Spl.start (h : w.Ok) : Spl w w 0 := by
  refine ⟨Nat.le_refl _, fun j => j, fun _ _ => rfl, ?_⟩
  have e : (fun i j => j < w.os.length ∧ j = i) = (fun i j : Nat => i < w.os.length ∧ i = j) := by
    funext i j
    exact propext ⟨fun ⟨a, b⟩ => ⟨b ▸ a, b.symm⟩, fun ⟨a, b⟩ => ⟨b ▸ a, b.symm⟩⟩
  rw [e]
  exact bis_refl h
theorem Spl.mono {w' : Web} {m m' : Nat} (s : Spl w w' m) (h : m ≤ m') : Spl w w' m' := ⟨by have := s.1; omega, s.2⟩
theorem Spl.step {w' w'' : Web} {m spot : Nat} (s : Spl w w' m) (hs : spot < w'.os.length) (hl : w'.os.length ≤ w''.os.length ∧ w''.os.length ≤ w'.os.length + 1) (hw : w.os.length ≤ w'.os.length) (b : Bis w' w'' (fun i j => j < w''.os.length ∧ (fun j => if j = w'.os.length then spot else j) j = i)) : Spl w w'' (m + 1) := by
  obtain ⟨h1, φ, h2, h3⟩ := s
  refine ⟨by omega, fun j => φ (if j = w'.os.length then spot else j), fun j hj => ?_, ?_⟩
  · show φ (if j = w'.os.length then spot else j) = j
    rw [if_neg (by omega)]; exact h2 j hj
  · have c := h3.trans b
    have e : (fun i j => j < w''.os.length ∧ φ (if j = w'.os.length then spot else j) = i) = (fun i k => ∃ j, (j < w'.os.length ∧ φ j = i) ∧ k < w''.os.length ∧ (fun j => if j = w'.os.length then spot else j) k = j) := by
      funext i k
      refine propext ⟨fun ⟨a, e⟩ => ⟨_, ⟨?_, e⟩, a, rfl⟩, fun ⟨j, ⟨a, e⟩, a2, e2⟩ => ⟨a2, by rw [← e, ← e2]⟩⟩
      split
      · exact hs
      · omega
    rw [e]
    exact c
end
end K01
set_option Elab.async false
set_option linter.all false
set_option maxRecDepth 100000
set_option maxHeartbeats 1000000
namespace K01
open PySem PySem.Spec PyProof.Rows L2 Sim Pg
/-! ### a web mixed up by the law -/
end K01
set_option Elab.async false
set_option linter.all false
set_option maxRecDepth 100000
set_option maxHeartbeats 1000000
namespace K01
open PySem PySem.Spec PyProof.Rows L2 Sim Pg
/-! ### first paths to pairs of numbers -/
abbrev ED := List ((Nat × Nat) × List Str)
/-- what is known of the pairs found -/
structure EI (Q : Nat × Nat → Prop) (PP : Nat × Nat → List Str → Prop) (N : Nat) (es : ED) : Prop where
  nd : (es.map (·.1)).Nodup
  q : ∀ d ∈ es, Q d.1
  pp : ∀ d ∈ es, PP d.1 d.2
  pl : ∀ d ∈ es, d.2.length ≤ es.length
  le : es.length ≤ N
section
variable {Q : Nat × Nat → Prop} {PP : Nat × Nat → List Str → Prop} {n1 n2 : Nat} {st : Sto}
theorem EI.nil : EI Q PP (n1 * n2) [] := ⟨List.nodup_nil, nofun, nofun, nofun, Nat.zero_le _⟩
end
end K01
set_option Elab.async false
set_option linter.all false
set_option maxRecDepth 100000
set_option maxHeartbeats 1000000
namespace K01
open PySem PySem.Spec PyProof.Rows L2 Sim Pg
/-! ### the pairs to which one word leads -/
theorem lcGo_fm {α : Type} {t : Tgt} {c : MB} {m : M} {env0 : Lo} {st : Sto} (f : α → PV) (p : α → Bool) (g : α → PV) : ∀ (l : List α), (∀ a ∈ l, ∃ e, t.run (f a) env0 = some e ∧ c e st = .ok (p a) st ∧ (p a = true → m e st = .ok (g a) st)) → lcGo t c m env0 (l.map f) st = .ok ((l.filter p).map g) st
  | [], _ => rfl
  | a :: l, h => by
    obtain ⟨e, r, q, z⟩ := h a (List.mem_cons_self ..)
    have ih := lcGo_fm f p g l fun b hb => h b (List.mem_cons_of_mem _ hb)
    simp only [List.map_cons, lcGo, r, q, Res.only, Res.bind_ok, ih, List.filter_cons]
    cases hp : p a with
    | true => simp only [if_true, z hp, Res.only, Res.bind_ok, ih]; rfl
    | false => simp
end K01
set_option Elab.async false
set_option linter.all false
set_option maxRecDepth 100000
set_option maxHeartbeats 1000000
namespace K01
open PySem PySem.Spec PyProof.Rows L2 Sim Pg
/-! ### common paths -/
end K01
set_option Elab.async false
set_option linter.all false
set_option maxRecDepth 100000
set_option maxHeartbeats 1000000
namespace K01
open PySem PySem.Spec PyProof.Rows L2 Sim Pg
/-! ### pairs that agree -/
def shV : Vl → PV
  | .int i => .int i
  | .ref _ => .tup []
def shp (o : Ob) : PV := .tup [.str o.kind, .lst (o.fs.map fun p => .str p.1), .lst (o.fs.map fun p => shV p.2)]
end K01
set_option Elab.async false
set_option linter.all false
set_option maxRecDepth 100000
set_option maxHeartbeats 1000000
namespace K01
open PySem PySem.Spec PyProof.Rows L2 Sim Pg
/-! ### webs that look the same, by the program: if nothing tells them apart, the answer is True -/
end K01
set_option Elab.async false
set_option linter.all false
set_option maxRecDepth 100000
set_option maxHeartbeats 1000000
namespace K01
open PySem PySem.Spec PyProof.Rows L2 Sim Pg
/-! ### agree, in general: near one another -/
end K01
set_option Elab.async false
set_option linter.all false
set_option maxRecDepth 100000
set_option maxHeartbeats 1000000
namespace K01
open PySem PySem.Spec PyProof.Rows L2 Sim Pg
/-! ### clash, in general -/
end K01
set_option Elab.async false
set_option linter.all false
set_option maxRecDepth 100000
set_option maxHeartbeats 1000000
namespace K01
open PySem PySem.Spec PyProof.Rows L2 Sim Pg
end K01
set_option Elab.async false
set_option linter.all false
set_option maxRecDepth 100000
set_option maxHeartbeats 1000000
namespace K01
open PySem PySem.Spec PyProof.Rows L2 Sim Pg
/-! ### same is a decision: equal least webs -/
end K01
set_option Elab.async false
set_option linter.all false
set_option maxRecDepth 100000
set_option maxHeartbeats 1000000
namespace K01
open PySem PySem.Spec PyProof.Rows L2 Sim Pg
end K01
set_option Elab.async false
set_option linter.all false
set_option maxRecDepth 100000
set_option maxHeartbeats 1000000
namespace K01
open PySem PySem.Spec PyProof.Rows L2 Sim Pg
/-! ### equality of data without bools, of webs -/
mutual
def hard : PV → Bool
  | .int _ => true
  | .str _ => true
  | .tup xs => hards xs
  | _ => false
def hards : List PV → Bool
  | [] => true
  | x :: xs => hard x && hards xs
end
mutual
theorem eqv_hard : ∀ (x : PV) {y : PV} {d e : PyData}, hard x = true → hard y = true → toD x = some d → toD y = some e → PyData.eqv d e = PV.eqb x y
  | .int i, y, d, e, _, h2, h3, h4 => by
    cases h3
    cases y with
    | int j =>
      cases h4
      simp only [PyData.eqv, PV.eqb]
      by_cases q : i = j
      · subst q; simp
      · rw [decide_eq_false q]; simp [q]
    | str z => cases h4; simp [PyData.eqv, PV.eqb]
    | tup ys => simp only [toD, Option.map_eq_some_iff] at h4; obtain ⟨ds, _, rfl⟩ := h4; simp [PyData.eqv, PV.eqb]
    | _ => cases h2
  | .str z, y, d, e, _, h2, h3, h4 => by
    cases h3
    cases y with
    | int j => cases h4; simp [PyData.eqv, PV.eqb]
    | str z' =>
      cases h4
      simp only [PyData.eqv, PV.eqb]
      by_cases q : z = z'
      · subst q; simp
      · rw [decide_eq_false q]; simp [q]
    | tup ys => simp only [toD, Option.map_eq_some_iff] at h4; obtain ⟨ds, _, rfl⟩ := h4; simp [PyData.eqv, PV.eqb]
    | _ => cases h2
  | .tup xs, y, d, e, h1, h2, h3, h4 => by
    simp only [toD, Option.map_eq_some_iff] at h3
    obtain ⟨ds, q1, rfl⟩ := h3
    cases y with
    | int j => cases h4; simp [PyData.eqv, PV.eqb]
    | str z' => cases h4; simp [PyData.eqv, PV.eqb]
    | tup ys =>
      simp only [toD, Option.map_eq_some_iff] at h4
      obtain ⟨es, q2, rfl⟩ := h4
      have := eqvs_hard xs (ys := ys) (by simpa only [hard] using h1) (by simpa only [hard] using h2) q1 q2
      simp only [PyData.eqv, PV.eqb, this]
    | _ => cases h2
  | .non, _, _, _, h, _, _, _ | .bl _, _, _, _, h, _, _, _ | .lst _, _, _, _, h, _, _, _ | .dct _, _, _, _, h, _, _, _ | .ref _, _, _, _, h, _, _, _ | .raw _, _, _, _, h, _, _, _ | .rol _, _, _, _, h, _, _, _ | .wtp _, _, _, _, h, _, _, _ | .err _, _, _, _, h, _, _, _ | .dd _, _, _, _, h, _, _, _ => by cases h
theorem eqvs_hard : ∀ (xs : List PV) {ys : List PV} {ds es : List PyData}, hards xs = true → hards ys = true → toDs xs = some ds → toDs ys = some es → PyData.eqvAll ds es = PV.eqbs xs ys
  | [], ys, ds, es, _, _, h3, h4 => by
    cases h3
    cases ys with
    | nil => cases h4; rfl
    | cons y ys =>
      simp only [toDs] at h4
      split at h4
      · cases h4; rfl
      · cases h4
  | x :: xs, ys, ds, es, h1, h2, h3, h4 => by
    simp only [toDs] at h3
    split at h3
    · rename_i d ds' q1 q2
      cases h3
      cases ys with
      | nil => cases h4; rfl
      | cons y ys =>
        simp only [toDs] at h4
        split at h4
        · rename_i e es' q3 q4
          cases h4
          simp only [hards, Bool.and_eq_true] at h1 h2
          simp only [PyData.eqvAll, PV.eqbs, eqv_hard x h1.1 h2.1 q1 q3, eqvs_hard xs h1.2 h2.2 q2 q4]
        · cases h4
    · cases h3
end
theorem hards_map {α : Type} (f : α → PV) (h : ∀ a, hard (f a) = true) : ∀ l : List α, hards (l.map f) = true
  | [] => rfl
  | a :: l => by simp only [List.map_cons, hards, h a, hards_map f h l, Bool.and_self]
theorem hard_vl (v : Vl) : hard v.pv = true := by cases v <;> rfl
theorem hard_ob (o : Ob) : hard o.pv = true := by
  simp only [Ob.pv, hard, hards, hards_map fpv (fun p => by simp only [fpv, hard, hards, hard_vl, Bool.and_self]), Bool.and_self]
theorem hard_web (w : Web) : hard w.pv = true := by
  simp only [Web.pv, hard, hards, hards_map Ob.pv hard_ob, hards_map npv (fun p => rfl), Bool.and_self]
theorem eqn_hard {n m : Nat} (hn : n ≤ 64) (hm : m ≤ 64) {x y : PV} (f : flatEq x y = none) (hx : hard x = true) (hy : hard y = true) (v1 : Sim.nv n x = true) (v2 : Sim.pl x = true) (v3 : Sim.nv m y = true) (v4 : Sim.pl y = true) (neg : Bool) (s : Sto) :
    sEqn neg x y s = .ok (.bl (if neg then !PV.eqb x y else PV.eqb x y)) s := by
  obtain ⟨d1, q1, q2⟩ := plain_shaped hn v1 v2
  obtain ⟨d2, q3, q4⟩ := plain_shaped hm v3 v4
  have t1 : toDS s x = some d1 := by
    cases x with
    | ref k => cases q1
    | _ => exact q1
  have t2 : toDS s y = some d2 := by
    cases y with
    | ref k => cases q3
    | _ => exact q3
  rw [eqn_data f t1 t2 q2 q4, eqv_hard x hx hy q1 q3]
theorem eqb_web (w w' : Web) : PV.eqb w.pv w'.pv = decide (w = w') := by
  by_cases e : w = w'
  · subst e
    rw [decide_eq_true rfl]; exact PV.eqb_refl w.pv
  · rw [decide_eq_false e]
    cases h : PV.eqb w.pv w'.pv with
    | false => rfl
    | true => exact absurd (Web.pv_inj _ _ (PV.eqb_ok h)) e
theorem ne_web {w w' : Web} (h : w.Ok) (h' : w'.Ok) (s : Sto) : sNe w.pv w'.pv s = .ok (.bl (!decide (w = w'))) s := by
  obtain ⟨v1, v2⟩ := h.nvpl
  obtain ⟨v3, v4⟩ := h'.nvpl
  have := eqn_hard (by decide) (by decide) (x := w.pv) (y := w'.pv) rfl (hard_web w) (hard_web w') v1 v2 v3 v4 true s
  rw [eqb_web] at this
  exact this
end K01
set_option Elab.async false
set_option linter.all false
set_option maxRecDepth 100000
set_option maxHeartbeats 2000000
namespace K61
open PySem PySem.Spec PyProof.Rows L2 Sim Pg K01
theorem asc_join {c : Nat} (hc : c < 128) : ∀ {xs : List (List Nat)}, (∀ x ∈ xs, Asc x) → Asc (TL.joinL [c] xs)
  | [], _ => nofun
  | [x], h => h x (List.mem_cons_self ..)
  | x :: y :: xs, h => by
    have ih := asc_join hc (xs := y :: xs) fun z hz => h z (List.mem_cons_of_mem _ hz)
    have e : TL.joinL [c] (x :: y :: xs) = x ++ ([c] ++ TL.joinL [c] (y :: xs)) := by
      first
        | rfl
        | simp only [TL.joinL, List.append_assoc]
    rw [e]
    intro d hd
    rcases List.mem_append.mp hd with hd | hd
    · exact h x (List.mem_cons_self ..) d hd
    · rcases List.mem_append.mp hd with hd | hd
      · rw [List.mem_singleton.mp hd]; exact hc
      · exact ih d hd
theorem asc_field {p : Str × Vl} (h : Wd p.1) : Asc (fieldC p) := fun c hc => by
  have := field_signs h c hc
  omega
theorem asc_kind {o : Ob} (h : OS o) : Asc (TL.tl o.kind) := by
  rcases h.kd with e | e <;> rw [e]
  · rw [c_open]; unfold Asc; decide
  · rw [c_frozen]; unfold Asc; decide
theorem asc_text {w : Web} (h : w.Ok) : Asc (text2 w.ns w.os) := by
  refine asc_join (by decide) fun x hx => ?_
  rcases List.mem_cons.mp hx with rfl | hx
  · refine asc_join (by decide) fun x hx => ?_
    obtain ⟨p, hp, rfl⟩ := List.mem_map.mp hx
    exact asc_field ((ns_of h).nf p hp).wd
  · obtain ⟨o, ho, rfl⟩ := List.mem_map.mp hx
    have O := oss_of h o ho
    refine asc_join (by decide) fun x hx => ?_
    rcases List.mem_cons.mp hx with rfl | hx
    · exact asc_kind O
    · obtain ⟨p, hp, rfl⟩ := List.mem_map.mp hx
      exact asc_field (O.fs p hp).wd
theorem law_read_ok {t : List Nat} (ha : Asc t) (hl : t.length ≤ 16777000) (st : Sto) : f__law_read [SV t] st = .ok (if rdP t then webX t else .non) st := by
  have r := read_total ha hl st
  unfold f__law_read m__law_read
  cases h : rdP t with
  | true =>
    rw [h, if_pos rfl] at r
    obtain ⟨w, e, _, _⟩ := rd_web h
    have g : gc st (webX t) st = .ok (webX t) st := gc_same (by rw [e]; exact low_web w)
    simp_arith! [cTryV, mAppO, Res.only, r, g]
  | false =>
    rw [h, if_neg (by decide)] at r
    have g : gc st .non st = .ok .non st := gc_same (x := .non) rfl
    simp_arith! [cTryV, mAppO, Res.only, r]
    show gc st .non st = _
    rw [g]
/-! ### the law's own text -/
def vM : M := mIf (bVal (mApp sIsi (mCons (mVar 6) (mCons (mC (.raw (.ty "tuple"))) mNil)))) (mBin sAdd (mC (.str "#")) (mApp sStr (mCons (mBin sIx (mVar 6) (mC (.int 0))) mNil))) (mApp sStr (mCons (mVar 6) mNil))
theorem vM_ok {v : Vl} (hv : Vl.Sm v) {env : Lo} (h6 : env[6]? = some (some v.pv)) (s : Sto) : vM env s = .ok (SV (valC v)) s := by
  unfold vM mIf
  cases v with
  | int i =>
    have i1 : ∀ s, sStr [.int i] s = .ok (SV (intC i)) s := fun s => int_shown hv.1 hv.2 s
    have f : ∀ s, sIsi [.int i, .raw (.ty "tuple")] s = .ok (.bl false) s := fun s => isi_tuple (x := .int i) rfl s
    simp_arith! [h6, Vl.pv, f, i1]
    rfl
  | ref n =>
    have hn : n ≤ 1000 := hv
    have i1 : ∀ s, sStr [.int (n : Nat)] s = .ok (SV (TL.numL n)) s := fun s => by
      rw [← intC_nat]; exact int_shown (by omega) (by omega) s
    have f : ∀ s, sIsi [.tup [.int (n : Nat)], .raw (.ty "tuple")] s = .ok (.bl true) s := fun s => isi_tuple (x := .tup [.int (n : Nat)]) rfl s
    have x0 : ∀ s, sIx (.tup [.int (n : Nat)]) (.int 0) s = .ok (.int (n : Nat)) s := fun s => ix0s _ _ s
    have a : ∀ s, sAdd (SV [35]) (SV (TL.numL n)) s = .ok (SV ([35] ++ TL.numL n)) s := fun s => sadd_S (by have := numL_9 (n := n) (by omega); show 1 + _ ≤ _; omega) s
    simp_arith! [h6, Vl.pv, f, x0, i1, c_ref, a]
    rfl
theorem sum_ok {k : Str} {v : Vl} (hk : (TL.tl k).length ≤ 8) (hv : Vl.Sm v) (s : Sto) : sAdd (.str k) (SV [61]) s = .ok (SV (TL.tl k ++ [61])) s ∧ sAdd (SV (TL.tl k ++ [61])) (SV (valC v)) s = .ok (SV (fieldC (k, v))) s := by
  constructor
  · have := sadd_S (a := TL.tl k) (b := [61]) (by show _ + 1 ≤ _; omega) s
    rw [show SV (TL.tl k) = .str k from congrArg PV.str (tl_S k)] at this
    exact this
  · have := sadd_S (a := TL.tl k ++ [61]) (b := valC v) (by have := val_len hv; rw [List.length_append]; show _ + 1 + _ ≤ _; omega) s
    rw [List.append_assoc] at this
    exact this
def appF : MS := cExpr (mAppend (mVar 4) (mBin sAdd (mBin sAdd (mVar 5) (mC (.str "="))) vM))
abbrev eX (v0 v1 v2 v3 v4 v5 v6 v7 : Option PV) : Lo := [v0, v1, v2, v3, v4, v5, v6, v7]
theorem app_set {k : Nat} {s : Sto} {xs : List PV} (x : PV) (e : s[k]? = some (.lst xs)) (hl : xs.length ≤ 1000) : isLst (.ref k) s = true ∧ sApp (.ref k) x s = .ok .non (s.set k (.lst (xs ++ [x]))) := by
  have : decide (xs.length < 16777216) = true := decide_eq_true (by omega)
  constructor
  · unfold isLst; simp [e]
  · simp only [sApp, e, this, if_true]
theorem fields_w {fs : List (Str × Vl)} (h : ∀ p ∈ fs, FS p) (hl : fs.length ≤ 4) {k : Nat} {s0 : Sto} (hk : k < s0.length) (d0 : List (List Nat)) (hd : d0.length ≤ 10) (e0 : s0[k]? = some (.lst (d0.map SV))) (v0 v1 v2 v3 v5 v6 v7 : Option PV) {R : PV → Sto → Prop} {B C : Lo → Sto → Prop} :
    wO (forGo (.many [5, 6]) appF (fs.map fpv) (eX v0 v1 v2 v3 (some (.ref k)) v5 v6 v7) s0) (fun e s => (∃ v5 v6, e = eX v0 v1 v2 v3 (some (.ref k)) v5 v6 v7) ∧ s = s0.set k (.lst ((d0 ++ fs.map fieldC).map SV))) R B C := by
  refine w_forGo (I := fun xs e s => ∃ (ps : List (Str × Vl)) (d : List (List Nat)) (v5 v6 : Option PV), xs = ps.map fpv ∧ (∀ p ∈ ps, FS p) ∧ ps.length + d.length ≤ 14 ∧ e = eX v0 v1 v2 v3 (some (.ref k)) v5 v6 v7 ∧ s = s0.set k (.lst (d.map SV)) ∧ d ++ ps.map fieldC = d0 ++ fs.map fieldC) ?_ ?_ ⟨fs, d0, v5, v6, rfl, h, by omega, rfl, ?_, rfl⟩
  · rintro x xs e s ⟨ps, d, v5, v6, ex, hp, hl2, rfl, rfl, ht⟩
    match ps, ex, hp, hl2, ht with
    | p :: ps, ex, hp, hl2, ht =>
      rw [List.map_cons, List.cons.injEq] at ex
      obtain ⟨rfl, rfl⟩ := ex
      obtain ⟨w, v⟩ := p
      have F := hp _ (List.mem_cons_self ..)
      refine ⟨eX v0 v1 v2 v3 (some (.ref k)) (some (.str w)) (some v.pv) v7, rfl, ?_⟩
      rw [List.length_cons] at hl2
      have ek : (s0.set k (.lst (d.map SV)))[k]? = some (.lst (d.map SV)) := by simp [hk]
      obtain ⟨il, ap⟩ := app_set (SV (fieldC (w, v))) ek (by rw [List.length_map]; omega)
      have vv := vM_ok F.sm (env := eX v0 v1 v2 v3 (some (.ref k)) (some (.str w)) (some v.pv) v7) rfl (s0.set k (.lst (d.map SV)))
      obtain ⟨a1, a2⟩ := sum_ok (k := w) (v := v) (wd_signs F.wd).2.2 F.sm (s0.set k (.lst (d.map SV)))
      unfold appF
      simp_all_arith! [mAppend, il, c_eq, vv, a1, a2, ap]
      refine ⟨ps, d ++ [fieldC (w, v)], _, _, by first | rfl | trivial, fun q hq => hp q (List.mem_cons_of_mem _ hq), by rw [List.length_append]; show _ + (_ + 1) ≤ _; omega, by first | rfl | trivial, ?_, ?_⟩
      · rw [List.set_set, List.map_append]; rfl
      · rw [← ht, List.append_assoc]; rfl
  · rintro e s ⟨ps, d, v5, v6, ex, hp, hl2, rfl, rfl, ht⟩
    have : ps = [] := by
      cases ps with
      | nil => rfl
      | cons p ps => cases ex
    subst this
    rw [List.map_nil, List.append_nil] at ht
    exact ⟨⟨v5, v6, rfl⟩, by rw [ht]⟩
  · obtain ⟨hk2, e⟩ := List.getElem?_eq_some_iff.mp e0
    rw [← e, List.set_getElem_self]
end K61
set_option Elab.async false
set_option linter.all false
set_option maxRecDepth 100000
set_option maxHeartbeats 2000000
namespace K61
open PySem PySem.Spec PyProof.Rows L2 Sim Pg K01
def rowB : MS := (cSeq (cSet (.one 4) (mApp sLstM (mCons (mVar 2) mNil)))
  (cSeq (cFor (mIter (mVar 3)) (.many [5, 6]) appF)
  (cExpr (mAppend (mVar 1) (mJoin (mC (.str " ")) (mVar 4))))))
theorem row_w {o : Ob} (O : OS o) {d : List (List Nat)} (hd : d.length ≤ 40) (st t : Sto) (v0 v4 v5 v6 v7 : Option PV) {R : PV → Sto → Prop} {B C : Lo → Sto → Prop} :
    wO (rowB (eX v0 (some (.ref st.length)) (some (.str o.kind)) (some (.tup (o.fs.map fpv))) v4 v5 v6 v7) (st ++ (.lst (d.map SV) :: t))) (fun e s => ∃ v2 v3 v4 v5 v6 t', e = eX v0 (some (.ref st.length)) v2 v3 v4 v5 v6 v7 ∧ s = st ++ (.lst ((d ++ [rowC o]).map SV) :: t')) R B C := by
  obtain ⟨s, hs⟩ : ∃ s : Sto, s = st ++ (.lst (d.map SV) :: t) := ⟨_, rfl⟩
  rw [← hs]
  have FW := @fields_w
  unfold rowB
  generalize appF = A at FW ⊢
  refine w_cut (M := fun e s2 => e = eX v0 (some (.ref st.length)) (some (.str o.kind)) (some (.tup (o.fs.map fpv))) (some (.ref s.length)) v5 v6 v7 ∧ s2 = s ++ [.lst [.str o.kind]]) ?_ ?_
  · have m0 : ∀ x s, sLstM [x] s = .ok (.ref s.length) (s ++ [.lst [x]]) := fun x s => rfl
    simp_all_arith! [m0]
    try exact ⟨trivial, trivial⟩
  rintro e s2 ⟨rfl, hs2⟩
  rw [hs2]
  clear hs2 s2
  have e0 : (s ++ [.lst [.str o.kind]])[s.length]? = some (.lst ([TL.tl o.kind].map SV)) := by
    rw [show [TL.tl o.kind].map SV = [.str o.kind] from congrArg (fun z => [PV.str z]) (tl_S o.kind)]
    simp
  refine w_cut (M := fun e s2 => (∃ v5 v6, e = eX v0 (some (.ref st.length)) (some (.str o.kind)) (some (.tup (o.fs.map fpv))) (some (.ref s.length)) v5 v6 v7) ∧ s2 = s ++ [.lst ((TL.tl o.kind :: o.fs.map fieldC).map SV)]) ?_ ?_
  · rw [wO_for]
    show wR (Res.ok (o.fs.map fpv) (s ++ [.lst [.str o.kind]])) _
    rw [wR_ok]
    refine (FW O.fs O.f4 (by simp) [TL.tl o.kind] (by simp) e0 v0 (some (.ref st.length)) (some (.str o.kind)) (some (.tup (o.fs.map fpv))) v5 v6 v7).imp ?_ (fun _ _ h => h)
    rintro e s2 ⟨⟨v5, v6, rfl⟩, rfl⟩
    exact ⟨⟨v5, v6, rfl⟩, by simp⟩
  rintro e s2 ⟨⟨v5, v6, rfl⟩, hs2⟩
  have jn : sJoin (SV [32]) (.ref s.length) s2 = .ok (SV (rowC o)) s2 := by
    refine join_S (B := 19) (row_parts_len O) ?_ ?_
    · rw [List.length_cons, List.length_map]; have := O.f4; omega
    · rw [hs2]; simp [asL]
  have eL : s2 = st ++ (.lst (d.map SV) :: (t ++ [.lst ((TL.tl o.kind :: o.fs.map fieldC).map SV)])) := by
    rw [hs2, hs]; simp
  have e1 : s2[st.length]? = some (.lst (d.map SV)) := by rw [eL]; simp
  obtain ⟨il, ap⟩ := app_set (SV (rowC o)) e1 (by rw [List.length_map]; omega)
  simp_all_arith! [mAppend, il, mJoin, c_sp, jn, ap]
  refine ⟨_, _, _, _, _, t ++ [.lst ((TL.tl o.kind :: o.fs.map fieldC).map SV)], by first | rfl | trivial, ?_⟩
  rw [eL]
  simp
theorem law_text_ok {w : Web} (h : w.Ok) (st : Sto) : f__law_text [w.pv] st = .ok (SV (text2 w.ns w.os)) st := by
  have hn := ns_of h
  have ho := oss_of h
  have h30 := h.o30
  refine w_eq ?_
  unfold f__law_text
  refine w_defM ?_
  have RW' := @row_w
  have em : m__law_text = (cSeq (cSet (.one 1) (mApp sLstM (mCons (mJoin (mC (.str " ")) (mLc (mIter (mBin sIx (mVar 0) (mC (.int 1)))) (.many [5, 7]) bYes (mBin sAdd (mBin sAdd (mVar 5) (mC (.str "="))) (mApp sStr (mCons (mVar 7) mNil))) [5, 7])) mNil)))
    (cSeq (cFor (mIter (mBin sIx (mVar 0) (mC (.int 0)))) (.many [2, 3]) rowB)
    (cRet (mJoin (mC (.str "\n")) (mVar 1))))) := by
    delta Pg.m__law_text rowB appF vM
    rfl
  rw [em]
  generalize rowB = Rb at RW' ⊢
  have nm : lcGo (.many [5, 7]) bYes (mBin sAdd (mBin sAdd (mVar 5) (mC (.str "="))) (mApp sStr (mCons (mVar 7) mNil))) (wipeL [some w.pv, none, none, none, none, none, none, none] [5, 7]) (w.ns.map npv) st = .ok (w.ns.map fun p => SV (fieldC (nf p))) st :=
    lcGo_rel npv (fun p => SV (fieldC (nf p))) w.ns fun p hp => by
      have F := hn.nf (nf p) (List.mem_map_of_mem hp)
      refine ⟨eX (some w.pv) none none none none (some (.str p.1)) none (some (.int (p.2 : Nat))), rfl, ?_⟩
      obtain ⟨a1, a2⟩ := sum_ok (k := p.1) (v := .int (p.2 : Nat)) (wd_signs F.wd).2.2 F.sm st
      have i1 : sStr [.int (p.2 : Nat)] st = .ok (SV (valC (.int (p.2 : Nat)))) st := int_shown F.sm.1 F.sm.2 st
      simp_arith! [c_eq, a1, i1, a2, Res.only]
      rfl
  have jn : ∀ s, sJoin (SV [32]) (.lst (w.ns.map fun p => SV (fieldC (nf p)))) s = .ok (SV (first2 w.ns)) s := fun s => by
    refine join_S (c := 32) (B := 19) (xs := (w.ns.map nf).map fieldC) (fun x hx => ?_) (by rw [List.length_map, List.length_map]; have := hn.n6; omega) ?_
    · obtain ⟨p, hp, rfl⟩ := List.mem_map.mp hx
      exact field_len (hn.nf p hp).wd (hn.nf p hp).sm
    · show some _ = some _
      simp only [List.map_map]; rfl
  have fl : fitL (w.ns.map npv) = true := by unfold fitL; rw [List.length_map]; have := hn.n6; exact decide_eq_true (by omega)
  have x1 : ∀ s, sIx w.pv (.int 1) s = .ok (.tup (w.ns.map npv)) s := fun s => ix1s _ _ _ s
  have x0 : ∀ s, sIx w.pv (.int 0) s = .ok (.tup (w.os.map Ob.pv)) s := fun s => ix0s _ _ s
  have it : ∀ (xs : List PV) s, sIter (.tup xs) s = .ok xs s := fun _ _ => rfl
  have m0 : ∀ x s, sLstM [x] s = .ok (.ref s.length) (s ++ [.lst [x]]) := fun x s => rfl
  refine w_cut (M := fun e s => e = eX (some w.pv) (some (.ref st.length)) none none none none none none ∧ s = st ++ [.lst [SV (first2 w.ns)]]) ?_ ?_
  · unfold mLc
    simp_all_arith! [mJoin, c_sp, x1, it, fl, nm, jn, m0]
    try exact ⟨trivial, trivial⟩
  rintro e s ⟨rfl, rfl⟩
  refine w_cut (M := fun e s => (∃ v2 v3 v4 v5 v6, e = eX (some w.pv) (some (.ref st.length)) v2 v3 v4 v5 v6 none) ∧ ∃ t, s = st ++ (.lst ((first2 w.ns :: w.os.map rowC).map SV) :: t)) ?_ ?_
  · simp_all_arith! [x0, it]
    refine w_forGo (I := fun xs e s => ∃ (ps : List Ob) (d : List (List Nat)) (v2 v3 v4 v5 v6 : Option PV) (t : Sto), xs = ps.map Ob.pv ∧ (∀ p ∈ ps, OS p) ∧ ps.length + d.length ≤ 31 ∧ e = eX (some w.pv) (some (.ref st.length)) v2 v3 v4 v5 v6 none ∧ s = st ++ (.lst (d.map SV) :: t) ∧ d ++ ps.map rowC = first2 w.ns :: w.os.map rowC) ?_ ?_ ⟨w.os, [first2 w.ns], none, none, none, none, none, [], rfl, ho, by simp; omega, rfl, rfl, rfl⟩
    · rintro x xs e s ⟨ps, d, v2, v3, v4, v5, v6, t, ex, hp, hl, rfl, rfl, ht⟩
      match ps, ex, hp, hl, ht with
      | o :: ps, ex, hp, hl, ht =>
        rw [List.map_cons, List.cons.injEq] at ex
        obtain ⟨rfl, rfl⟩ := ex
        rw [List.length_cons] at hl
        refine ⟨eX (some w.pv) (some (.ref st.length)) (some (.str o.kind)) (some (.tup (o.fs.map fpv))) v4 v5 v6 none, rfl, ?_⟩
        refine (RW' (hp o (List.mem_cons_self ..)) (by omega) st t (some w.pv) v4 v5 v6 none).imp ?_ (fun _ _ h => h)
        rintro e s ⟨v2, v3, v4, v5, v6, t', rfl, rfl⟩
        exact ⟨ps, d ++ [rowC o], v2, v3, v4, v5, v6, t', rfl, fun q hq => hp q (List.mem_cons_of_mem _ hq), by rw [List.length_append]; show _ + (_ + 1) ≤ _; omega, rfl, rfl, by rw [← ht, List.append_assoc]; rfl⟩
    · rintro e s ⟨ps, d, v2, v3, v4, v5, v6, t, ex, hp, hl, rfl, rfl, ht⟩
      have : ps = [] := by
        cases ps with
        | nil => rfl
        | cons p ps => cases ex
      subst this
      rw [List.map_nil, List.append_nil] at ht
      exact ⟨⟨v2, v3, v4, v5, v6, rfl⟩, t, by rw [ht]; rfl⟩
  rintro e s ⟨⟨v2, v3, v4, v5, v6, rfl⟩, t, hs⟩
  have j2 : sJoin (SV [10]) (.ref st.length) s = .ok (SV (text2 w.ns w.os)) s := by
    refine join_S (B := 120) (lines_len hn ho) ?_ ?_
    · rw [List.length_cons, List.length_map]; omega
    · rw [hs]; simp [asL]
  have g : gc st (SV (text2 w.ns w.os)) s = .ok (SV (text2 w.ns w.os)) st := by
    rw [hs]; exact gc_keep rfl
  simp_all_arith! [mJoin, c_nl, j2, g]
  try exact ⟨trivial, trivial⟩
end K61
set_option Elab.async false
set_option linter.all false
set_option maxRecDepth 100000
set_option maxHeartbeats 2000000
namespace K61
open PySem PySem.Spec PyProof.Rows L2 Sim Pg K01
/-! ### bent texts -/
theorem asc_joinS {S : List Nat} (hc : Asc S) : ∀ {xs : List (List Nat)}, (∀ x ∈ xs, Asc x) → Asc (TL.joinL S xs)
  | [], _ => nofun
  | [x], h => h x (List.mem_cons_self ..)
  | x :: y :: xs, h => by
    have ih := asc_joinS hc (xs := y :: xs) fun z hz => h z (List.mem_cons_of_mem _ hz)
    have e : TL.joinL S (x :: y :: xs) = x ++ (S ++ TL.joinL S (y :: xs)) := by
      first
        | rfl
        | simp only [TL.joinL, List.append_assoc]
    rw [e]
    intro d hd
    rcases List.mem_append.mp hd with hd | hd
    · exact h x (List.mem_cons_self ..) d hd
    · rcases List.mem_append.mp hd with hd | hd
      · exact hc d hd
      · exact ih d hd
theorem asc_glued {x z : Str} (hx : Asc (TL.tl x)) (hz : Asc (TL.tl z)) (cuts : List Nat) (w : Nat) : Asc (TL.tl (Builtin.Str.glued z (Builtin.Str.partsBetween x cuts w))) := by
  rw [StrLaws.glued_eq_join, TL.tl_join]
  refine asc_joinS hz fun p hp => ?_
  obtain ⟨q, hq, rfl⟩ := List.mem_map.mp hp
  unfold Builtin.Str.partsBetween at hq
  obtain ⟨⟨i, j⟩, _, rfl⟩ := List.mem_map.mp hq
  show Asc (TL.tl (Builtin.Str.strSub x i j))
  rw [TL.tl_strSub]
  exact fun c hc => hx c (List.mem_of_mem_drop (List.mem_of_mem_take hc))
theorem asc_rep {x z : Str} (y : Str) (hx : Asc (TL.tl x)) (hz : Asc (TL.tl z)) : Asc (TL.tl (Txt.replace x y z)) := by
  unfold Txt.replace
  split
  · exact hx
  · exact asc_glued hx hz _ _
theorem asc_rep1 {x z : Str} (y : Str) (hx : Asc (TL.tl x)) (hz : Asc (TL.tl z)) : Asc (TL.tl (rep1 x y z)) := by
  unfold rep1
  split
  · exact hx
  · exact asc_glued hx hz _ _
theorem rep1_len (x y z : Str) : (rep1 x y z).length ≤ x.length + z.length := by
  unfold rep1
  split
  · omega
  · have h1 := StrLaws.occ_length_le x y 0 x.length 1
    have hy : (Builtin.Str.glued y (Builtin.Str.partsBetween x (Builtin.Str.occurrences x y 0 x.length 1) y.length)).length = x.length := by rw [StrLaws.glued_between_self]
    rw [size_glued, length_partsBetween, Nat.add_sub_cancel] at hy
    rw [size_glued, length_partsBetween, Nat.add_sub_cancel]
    have h2 : (Builtin.Str.occurrences x y 0 x.length 1).length * z.length ≤ 1 * z.length := Nat.mul_le_mul_right _ h1
    omega
theorem asc_up {l : List Nat} (h : Asc l) : Txt.upper (Z l) = Z (l.map PyProof.Rows.up1) ∧ Asc (l.map PyProof.Rows.up1) := by
  constructor
  · exact SX.upper_S (List.all_eq_true.mpr fun c hc => decide_eq_true (h c hc))
  · intro c hc
    obtain ⟨d, hd, rfl⟩ := List.mem_map.mp hc
    have := h d hd
    unfold PyProof.Rows.up1
    split <;> omega
def signs14 : List (List Nat) := [[], [32], [10], [61], [35], [48], [45], [97], [49], [57, 57, 57, 57, 57, 57, 57, 57, 57], [111, 112, 101, 110], [43], [95], [9]]
theorem c_e : ("" : Str) = Z [] := TL.ext_tl (by decide +kernel)
theorem c_0z : ("0" : Str) = Z [48] := TL.ext_tl (by decide +kernel)
theorem c_a : ("a" : Str) = Z [97] := TL.ext_tl (by decide +kernel)
theorem c_1 : ("1" : Str) = Z [49] := TL.ext_tl (by decide +kernel)
theorem c_op : ("open" : Str) = Z [111, 112, 101, 110] := TL.ext_tl (by decide +kernel)
theorem c_pl : ("+" : Str) = Z [43] := TL.ext_tl (by decide +kernel)
theorem c_us : ("_" : Str) = Z [95] := TL.ext_tl (by decide +kernel)
theorem c_tab : ("\t" : Str) = Z [9] := TL.ext_tl (by decide +kernel)
theorem c_nines (s : Sto) : sMulS (.str "9") (.int 9) s = .ok (SV [57, 57, 57, 57, 57, 57, 57, 57, 57]) s := by
  have e : repS "9" 9 = Z [57, 57, 57, 57, 57, 57, 57, 57, 57] := TL.ext_tl (by decide +kernel)
  have f : (decide ((2 : Int) ≤ 9) && (decide ((9 : Int) ≤ 100) && (decide (1 ≤ ("9" : Str).length) && (decide (("9" : Str).length ≤ 100) && decide ((repS "9" 9).length ≤ 10000))))) = true := by
    rw [e, Z_len]; decide +kernel
  show (if (decide ((2 : Int) ≤ 9) && (decide ((9 : Int) ≤ 100) && (decide (1 ≤ ("9" : Str).length) && (decide (("9" : Str).length ≤ 100) && decide ((repS "9" 9).length ≤ 10000))))) = true then Res.ok (PV.str (repS "9" 9)) s else .bad) = _
  rw [if_pos f, e]
theorem signs_ok : ∀ x ∈ signs14, Asc x ∧ x.length ≤ 9 := by
  unfold Asc signs14
  decide
theorem asc_app {a b : List Nat} (h : Asc a) (h2 : Asc b) : Asc (a ++ b) := fun c hc => (List.mem_append.mp hc).elim (h c) (h2 c)
theorem asc_take {a : List Nat} (h : Asc a) (n : Nat) : Asc (a.take n) := fun c hc => h c (List.mem_of_mem_take hc)
theorem asc_drop {a : List Nat} (h : Asc a) (n : Nat) : Asc (a.drop n) := fun c hc => h c (List.mem_of_mem_drop hc)
theorem slc_to {t : List Nat} (hl : t.length ≤ 16777216) (n : Nat) (s : Sto) : sSlcS (SV t) none (some (n : Nat)) s = .ok (SV (t.take n)) s := by
  have f : decide ((Z t).length ≤ 16777216) = true := by rw [Z_len]; exact decide_eq_true hl
  have e : cutS (Z t) none (some (n : Nat)) = Z (t.take n) := by
    rw [C8.cutS_slice]
    have := SX.slice_to (a := t) (i := (n : Nat)) (by omega)
    rw [Int.toNat_natCast] at this
    exact this
  simp only [sSlcS, f, if_true, e]
theorem slc_from {t : List Nat} (hl : t.length ≤ 16777216) (n : Nat) (s : Sto) : sSlcS (SV t) (some (n : Nat)) none s = .ok (SV (t.drop n)) s := by
  have f : decide ((Z t).length ≤ 16777216) = true := by rw [Z_len]; exact decide_eq_true hl
  have e : cutS (Z t) (some (n : Nat)) none = Z (t.drop n) := by
    rw [C8.cutS_slice]
    have := SX.slice_from (a := t) (i := (n : Nat)) (by omega)
    rw [Int.toNat_natCast] at this
    exact this
  simp only [sSlcS, f, if_true, e]
def bents (t sg : List Nat) (n : Nat) : List (List Nat) := [t.take n ++ sg ++ t.drop n, t.take n ++ sg ++ t.drop (n + 1), t.drop n ++ t.take n, t ++ sg, t.take n, TL.tl (rep1 (Z t) "#" ""), TL.tl (Txt.replace (Z t) "open" "frozen"), t.map PyProof.Rows.up1]
theorem bents_ok {t sg : List Nat} (ht : Asc t) (hl : t.length ≤ 3000) (hs : Asc sg ∧ sg.length ≤ 9) (n : Nat) : ∀ x ∈ bents t sg n, Asc x ∧ x.length ≤ 100000 := by
  obtain ⟨hs, hsl⟩ := hs
  intro x hx
  simp only [bents, List.mem_cons, List.not_mem_nil, or_false] at hx
  have td : ∀ k, (t.take k).length ≤ t.length := fun k => by rw [List.length_take]; omega
  have dd : ∀ k, (t.drop k).length ≤ t.length := fun k => by rw [List.length_drop]; omega
  rcases hx with rfl | rfl | rfl | rfl | rfl | rfl | rfl | rfl
  · exact ⟨asc_app (asc_app (asc_take ht _) hs) (asc_drop ht _), by rw [List.length_append, List.length_append]; have := td n; have := dd n; omega⟩
  · exact ⟨asc_app (asc_app (asc_take ht _) hs) (asc_drop ht _), by rw [List.length_append, List.length_append]; have := td n; have := dd (n + 1); omega⟩
  · exact ⟨asc_app (asc_drop ht _) (asc_take ht _), by rw [List.length_append]; have := td n; have := dd n; omega⟩
  · exact ⟨asc_app ht hs, by rw [List.length_append]; omega⟩
  · exact ⟨asc_take ht _, by have := td n; omega⟩
  · refine ⟨asc_rep1 _ ht (by unfold Asc; decide +kernel), ?_⟩
    rw [← TL.len_tl]
    have := rep1_len (Z t) "#" ""
    rw [Z_len] at this
    have e : ("" : Str).length = 0 := rfl
    omega
  · refine ⟨asc_rep _ ht (by unfold Asc; decide +kernel), ?_⟩
    rw [← TL.len_tl]
    have := TK.replace_len (Z t) "open" "frozen"
    rw [Z_len] at this
    have e : ("frozen" : Str).length = 6 := by decide +kernel
    rw [e] at this
    omega
  · exact ⟨(asc_up ht).2, by rw [List.length_map]; omega⟩
end K61
set_option Elab.async false
set_option linter.all false
set_option maxRecDepth 100000
set_option maxHeartbeats 2000000
namespace K61
open PySem PySem.Spec PyProof.Rows L2 Sim Pg K01
theorem ixlM {xs : List PV} {i : Nat} {x : PV} (h : xs[i]? = some x) (s : Sto) : sIx (.lst xs) (.int (i : Nat)) s = .ok x s := by
  obtain ⟨hi, rfl⟩ := List.getElem?_eq_some_iff.mp h
  have : atI xs (i : Nat) = some xs[i] := atI_nat hi
  simp [sIx, asD, asL, this]
theorem ix_any {ls : List (List Nat)} {d : Int} (h0 : 0 ≤ d) (h1 : d < (ls.length : Nat)) : ∃ b ∈ ls, ∀ s, sIx (.lst (ls.map SV)) (.int d) s = .ok (SV b) s := by
  obtain ⟨n, rfl⟩ := Int.eq_ofNat_of_zero_le h0
  have hn : n < ls.length := by omega
  refine ⟨ls[n], List.getElem_mem hn, fun s => ixlM (i := n) ?_ s⟩
  rw [List.getElem?_map, List.getElem?_eq_getElem hn]; rfl
theorem addL (xs ys : List PV) (h : xs.length + ys.length ≤ 10000) (s : Sto) : sAdd (.lst xs) (.lst ys) s = .ok (.lst (xs ++ ys)) s := by
  have : fitL (xs ++ ys) = true := by unfold fitL; rw [List.length_append]; exact decide_eq_true (by omega)
  simp only [sAdd, asM, this, if_true]
theorem bent_w {t : List Nat} (ht : Asc t) (hl : t.length ≤ 3000) {st : Sto} {k : Nat} (hk : Dr k st) : wR (f__law_bent_4 [.ref k, SV t] st) (fun v s => ∃ b, v = SV b ∧ Asc b ∧ b.length ≤ 100000 ∧ Up k st s) := by
  unfold f__law_bent_4
  refine w_defM ?_
  unfold m__law_bent_4
  have ln : ∀ s, sLen [SV t] s = .ok (.int (t.length : Nat)) s := fun s => by
    have := lenS (z := Z t) (by rw [Z_len]; omega) s
    rw [Z_len] at this
    exact this
  refine w_cut (M := fun e s => ∃ n : Nat, n ≤ t.length ∧ e = [some (.ref k), some (SV t), some (.int (n : Nat)), none, none] ∧ Up k st s) ?_ ?_
  · have ad : ∀ s, sAdd (.int (t.length : Nat)) (.int 1) s = .ok (.int ((t.length + 1 : Nat) : Int)) s := fun s => rfl
    simp_all_arith! [ln, ad]
    refine (take_w hk (n := ((t.length + 1 : Nat) : Int)) (by omega) (by omega)).imp ?_
    rintro v s ⟨d, rfl, d0, d1, u⟩
    obtain ⟨n, rfl⟩ := Int.eq_ofNat_of_zero_le d0
    exact ⟨n, by omega, rfl, u⟩
  rintro e s1 ⟨n, hn, rfl, u1⟩
  have dr1 := u1.dr hk.lt
  refine w_cut (M := fun e s => ∃ sg ∈ signs14, e = [some (.ref k), some (SV t), some (.int (n : Nat)), some (SV sg), none] ∧ Up k st s) ?_ ?_
  · have l14 : ∀ s, sLstF [SV [], SV [32], SV [10], SV [61], SV [35], SV [48], SV [45], SV [97], SV [49], SV [57, 57, 57, 57, 57, 57, 57, 57, 57], SV [111, 112, 101, 110], SV [43], SV [95], SV [9]] s = .ok (.lst (signs14.map SV)) s := fun s => rfl
    simp_all_arith! [c_e, c_sp, c_nl, c_eq, c_ref, c_0z, c_minus, c_a, c_1, c_nines, c_op, c_pl, c_us, c_tab, l14]
    refine (take_w dr1 (n := 14) (by decide) (by decide)).imp ?_
    rintro v s ⟨d, rfl, d0, d1, u⟩
    obtain ⟨sg, hsg, ix⟩ := ix_any (ls := signs14) d0 (by show d < 14; omega)
    rw [ix, wR_ok]
    exact ⟨sg, hsg, rfl, u1.trans u⟩
  rintro e s2 ⟨sg, hsg, rfl, u2⟩
  have dr2 := u2.dr hk.lt
  have hs := signs_ok sg hsg
  have tn := fun (a b : List Nat) (h : a.length + b.length ≤ 16777216) s => sadd_S (a := a) (b := b) h s
  have td : ∀ k, (t.take k).length ≤ t.length := fun k => by rw [List.length_take]; omega
  have dd : ∀ k, (t.drop k).length ≤ t.length := fun k => by rw [List.length_drop]; omega
  have s1' := fun s => slc_to (t := t) (by omega) n s
  have s2' := fun s => slc_from (t := t) (by omega) n s
  have s3' := fun s => slc_from (t := t) (by omega) (n + 1) s
  have ad1 : ∀ s, sAdd (.int (n : Nat)) (.int 1) s = .ok (.int ((n + 1 : Nat) : Int)) s := fun s => rfl
  have a1 := fun s => tn (t.take n) sg (by have := td n; omega) s
  have a2 := fun s => tn (t.take n ++ sg) (t.drop n) (by rw [List.length_append]; have := td n; have := dd n; omega) s
  have a3 := fun s => tn (t.take n ++ sg) (t.drop (n + 1)) (by rw [List.length_append]; have := td n; have := dd (n + 1); omega) s
  have a4 := fun s => tn (t.drop n) (t.take n) (by have := td n; have := dd n; omega) s
  have a5 := fun s => tn t sg (by omega) s
  have l3 : ∀ a b c s, sLstF [SV a, SV b, SV c] s = .ok (.lst [SV a, SV b, SV c]) s := fun _ _ _ s => rfl
  have l4 : ∀ a b c d s, sLstF [SV a, SV b, SV c, SV d] s = .ok (.lst [SV a, SV b, SV c, SV d]) s := fun _ _ _ _ s => rfl
  have l1 : ∀ a s, sLstF [SV a] s = .ok (.lst [SV a]) s := fun _ s => rfl
  refine w_cut (M := fun e s => e = [some (.ref k), some (SV t), some (.int (n : Nat)), some (SV sg), some (.lst [SV (t.take n ++ sg ++ t.drop n), SV (t.take n ++ sg ++ t.drop (n + 1)), SV (t.drop n ++ t.take n)])] ∧ s = s2) ?_ ?_
  · simp_all_arith! [mSliceS, oSome, oNone, s1', s2', s3', ad1, a1, a2, a3, a4, l3]
    try exact ⟨trivial, trivial⟩
  rintro e s3 ⟨rfl, hs3⟩
  rw [hs3]
  clear hs3 s3
  have r1 : ∀ s, mRep1 "#" "" (mVar 1) [some (.ref k), some (SV t), some (.int (n : Nat)), some (SV sg), some (.lst [SV (t.take n ++ sg ++ t.drop n), SV (t.take n ++ sg ++ t.drop (n + 1)), SV (t.drop n ++ t.take n)])] s = .ok (SV (TL.tl (rep1 (Z t) "#" ""))) s := fun s => by
    have f : decide ((Z t).length + ("" : Str).length ≤ 16777216) = true := by
      rw [Z_len]; exact decide_eq_true (by have : ("" : Str).length = 0 := rfl; omega)
    show (if decide ((Z t).length + ("" : Str).length ≤ 16777216) = true then Res.ok (PV.str (rep1 (Z t) "#" "")) s else .bad) = _
    rw [if_pos f, show SV (TL.tl (rep1 (Z t) "#" "")) = .str (rep1 (Z t) "#" "") from congrArg PV.str (tl_S _)]
  have r2 : ∀ s, mRepC "open" "frozen" (mVar 1) [some (.ref k), some (SV t), some (.int (n : Nat)), some (SV sg), some (.lst [SV (t.take n ++ sg ++ t.drop n), SV (t.take n ++ sg ++ t.drop (n + 1)), SV (t.drop n ++ t.take n)])] s = .ok (SV (TL.tl (Txt.replace (Z t) "open" "frozen"))) s := fun s => by
    have e : ("frozen" : Str).length = 6 := by decide +kernel
    have f : decide ((Z t).length + ((Z t).length + 1) * ("frozen" : Str).length ≤ 16777216) = true := by
      rw [Z_len, e]; exact decide_eq_true (by omega)
    show (if decide ((Z t).length + ((Z t).length + 1) * ("frozen" : Str).length ≤ 16777216) = true then Res.ok (PV.str (Txt.replace (Z t) "open" "frozen")) s else .bad) = _
    rw [if_pos f, show SV (TL.tl (Txt.replace (Z t) "open" "frozen")) = .str (Txt.replace (Z t) "open" "frozen") from congrArg PV.str (tl_S _)]
  generalize mRep1 "#" "" (mVar 1) = M1 at r1 ⊢
  generalize mRepC "open" "frozen" (mVar 1) = M2 at r2 ⊢
  refine w_cut (M := fun e s => e = [some (.ref k), some (SV t), some (.int (n : Nat)), some (SV sg), some (.lst [SV (t.take n ++ sg ++ t.drop n), SV (t.take n ++ sg ++ t.drop (n + 1)), SV (t.drop n ++ t.take n), SV (t ++ sg), SV (t.take n), SV (TL.tl (rep1 (Z t) "#" "")), SV (TL.tl (Txt.replace (Z t) "open" "frozen"))])] ∧ s = s2) ?_ ?_
  · have al := fun s => addL [SV (t.take n ++ sg ++ t.drop n), SV (t.take n ++ sg ++ t.drop (n + 1)), SV (t.drop n ++ t.take n)] [SV (t ++ sg), SV (t.take n), SV (TL.tl (rep1 (Z t) "#" "")), SV (TL.tl (Txt.replace (Z t) "open" "frozen"))] (by simp) s
    simp_all_arith! [mSliceS, oSome, oNone, s1', a5, r1, r2, l4, al]
    try exact ⟨trivial, trivial⟩
  rintro e s3 ⟨rfl, hs3⟩
  rw [hs3]
  clear hs3 s3
  have up : ∀ env s, env[1]? = some (some (SV t)) → mUp (mVar 1) env s = .ok (SV (t.map PyProof.Rows.up1)) s := fun env s h => by
    have f : decide ((Z t).length ≤ 5592405) = true := by rw [Z_len]; exact decide_eq_true (by omega)
    unfold mUp
    simp_arith! [h, f, (asc_up ht).1]
  have al := fun s => addL [SV (t.take n ++ sg ++ t.drop n), SV (t.take n ++ sg ++ t.drop (n + 1)), SV (t.drop n ++ t.take n), SV (t ++ sg), SV (t.take n), SV (TL.tl (rep1 (Z t) "#" "")), SV (TL.tl (Txt.replace (Z t) "open" "frozen"))] [SV (t.map PyProof.Rows.up1)] (by simp) s
  have up := fun s => up [some (.ref k), some (SV t), some (.int (n : Nat)), some (SV sg), some (.lst [SV (t.take n ++ sg ++ t.drop n), SV (t.take n ++ sg ++ t.drop (n + 1)), SV (t.drop n ++ t.take n), SV (t ++ sg), SV (t.take n), SV (TL.tl (rep1 (Z t) "#" "")), SV (TL.tl (Txt.replace (Z t) "open" "frozen"))])] s rfl
  generalize mUp (mVar 1) = M3 at up ⊢
  simp_all_arith! [up, l1, al]
  refine (take_w dr2 (n := 8) (by decide) (by decide)).imp ?_
  rintro v s4 ⟨d, rfl, d0, d1, u⟩
  obtain ⟨b, hb, ix⟩ := ix_any (ls := bents t sg n) d0 (by show d < 8; omega)
  have ix : ∀ s, sIx (.lst [SV (t.take n ++ sg ++ t.drop n), SV (t.take n ++ sg ++ t.drop (n + 1)), SV (t.drop n ++ t.take n), SV (t ++ sg), SV (t.take n), SV (TL.tl (rep1 (Z t) "#" "")), SV (TL.tl (Txt.replace (Z t) "open" "frozen")), SV (t.map PyProof.Rows.up1)]) (.int d) s = .ok (SV b) s := ix
  have U := u2.trans u
  have g : gc st (SV b) s4 = .ok (SV b) s4 := gc_up0 U rfl
  simp_all_arith! [ix, g]
  obtain ⟨b1, b2⟩ := bents_ok ht hl hs n b hb
  exact ⟨b, rfl, b1, b2, U⟩
end K61
set_option Elab.async false
set_option linter.all false
set_option maxRecDepth 100000
set_option maxHeartbeats 2000000
namespace K61
open PySem PySem.Spec PyProof.Rows L2 Sim Pg K01
/-! ### what is not read, what is refused -/
def NoRd (x : PV) : Prop := ∀ s, f__law_read [x] s = .ok .non s
theorem no_of_exc {x : PV} (h : ∀ s, f_read [x] s = .exc "InvalidText" [] s) : NoRd x := fun s => by
  have r := h s
  have g : gc s .non s = .ok .non s := gc_same (x := .non) rfl
  unfold f__law_read m__law_read
  simp_arith! [cTryV, mAppO, Res.only, r]
  show gc s .non s = _
  rw [g]
def noP (z : Str) : Bool := (TL.tl z).all (fun c => decide (c < 128)) && (decide ((TL.tl z).length ≤ 16777000) && !rdP (TL.tl z))
theorem no_str {z : Str} (h : noP z = true) : NoRd (.str z) := by
  unfold noP at h
  simp only [Bool.and_eq_true, decide_eq_true_eq, Bool.not_eq_true'] at h
  refine no_of_exc fun s => ?_
  have := read_total (t := TL.tl z) (fun c hc => of_decide_eq_true (List.all_eq_true.mp h.1 c hc)) h.2.1 s
  rw [h.2.2, if_neg (by decide), show SV (TL.tl z) = .str z from congrArg PV.str (tl_S z)] at this
  exact this
theorem no_strs {zs : List Str} (h : zs.all noP = true) : ∀ z ∈ zs, NoRd (.str z) := fun z hz => no_str (List.all_eq_true.mp h z hz)
theorem no_long {z : Str} (h : 3000 < z.length) (hl : z.length ≤ 16777000) : NoRd (.str z) := by
  refine no_of_exc fun s => ?_
  have gn : gc s .non s = .ok .non s := gc_same (x := .non) rfl
  have is : sIsi [.str z, .raw (.ty "str")] s = .ok (.bl true) s := isi_str (x := .str z) rfl s
  have ln : ∀ s, sLen [.str z] s = .ok (.int (z.length : Nat)) s := fun s => lenS (by omega) s
  have gt : decide ((3000 : Int) < (z.length : Nat)) = true := decide_eq_true (by omega)
  unfold f_read m_read defX
  simp_arith! [is, ln, gt, v_MOST_SIGNS, cRaise, outX, gn]
theorem no_odd {x : PV} (hf : flat x = true) (h : is_str x = false) : NoRd x := by
  refine no_of_exc fun s => ?_
  have gn : gc s .non s = .ok .non s := gc_same (x := .non) rfl
  have is : sIsi [x, .raw (.ty "str")] s = .ok (.bl false) s := by rw [isi_str hf s, h]
  unfold f_read m_read defX
  simp_arith! [is, cRaise, outX, gn]
theorem rep_len (z : Str) (n : Nat) : (repS z (n : Nat)).length = n * z.length := by
  unfold repS
  rw [Int.toNat_natCast]
  have : ∀ (n : Nat) (acc : Array Nat), ((List.replicate n z.cps).foldl (· ++ ·) acc).size = acc.size + n * z.cps.size := by
    intro n
    induction n with
    | zero => intro acc; simp
    | succ n ih =>
      intro acc
      rw [List.replicate_succ, List.foldl_cons, ih, Array.size_append, Nat.succ_mul]
      omega
  show ((List.replicate n z.cps).foldl (· ++ ·) #[]).size = n * z.cps.size
  rw [this]
  simp
def Refd (x : PV) : Prop := ∀ s, f__law_refused [x] s = .ok (.bl true) s
theorem ref_of {x : PV} (h : ∀ s, f_is_web [x] s = .ok (.bl false) s) : Refd x := fun s => by
  have g : gc s (.bl true) s = .ok (.bl true) s := gc_bl s true
  have gn : gc s .non s = .ok .non s := gc_same (x := .non) rfl
  have c : f_check_web_2 [x] s = .exc "InvalidWeb" [] s := by
    unfold f_check_web_2 m_check_web_2
    simp_arith! [defX, outX, cRaise, h s, gn]
  have w : f_write [x] s = .exc "InvalidWeb" [] s := by
    unfold f_write m_write
    simp_arith! [defX, outX, c, gn]
  unfold f__law_refused m__law_refused
  simp_arith! [cTryF, mAppO, Res.only, w]
  show gc s (.bl true) s = _
  rw [g]
def refP (x : PV) : Bool := dt x && (kindsOk x && !webP x)
theorem ref_data {x : PV} (h : refP x = true) : Refd x := by
  unfold refP at h
  simp only [Bool.and_eq_true, Bool.not_eq_true'] at h
  refine ref_of fun s => ?_
  rw [f_is_web_ok h.1 h.2.1 s, h.2.2]
/-! ### the webs of letters -/
def lettersW (m : Nat) : Web := ⟨(List.range m).map fun k => ⟨"open", [("ijkqy", .ref (m - 1 - k)), ("stuvwx", .int (k : Nat))]⟩, [("hgmnopr", 0), ("lcde", m - 1)]⟩
theorem letters_ok {m : Nat} (h : m = 15 ∨ m = 22 ∨ m = 29) : (lettersW m).Ok := by
  rcases h with rfl | rfl | rfl
  · exact ok_of (by decide +kernel)
  · exact ok_of (by decide +kernel)
  · exact ok_of (by decide +kernel)
theorem same_text {w : Web} (h : w.Ok) : (∀ s, f_write__N [w.pv] s = .ok (SV (text2 w.ns w.os)) s) ∧ (∀ s, f__law_text [w.pv] s = .ok (SV (text2 w.ns w.os)) s) ∧ (∀ s, f_read__N [SV (text2 w.ns w.os)] s = .ok w.pv s) ∧ (∀ s, sNe (SV (text2 w.ns w.os)) (SV (text2 w.ns w.os)) s = .ok (.bl false) s) ∧ (∀ s, sNe w.pv w.pv s = .ok (.bl false) s) := by
  refine ⟨fun s => write_ok h s, fun s => law_text_ok h s, fun s => read_yesN h s, fun s => ?_, fun s => ?_⟩
  · have : flatEq (SV (text2 w.ns w.os)) (SV (text2 w.ns w.os)) = some true := by simp [flatEq]
    simp only [sEqn, this]
    rfl
  · have := ne_web h h s
    rw [decide_eq_true rfl] at this
    exact this
def letB : MS := (cSeq (cSet (.one 3) (mLc (mRange1 (mVar 0)) (.one 5) bYes (mApp sTup (mCons (mC (.str "open")) (mCons (mApp sTup (mCons (mApp sTup (mCons (mC (.str "ijkqy")) (mCons (mApp sTup (mCons (mBin sSub (mBin sSub (mVar 0) (mC (.int 1))) (mVar 5)) mNil)) mNil))) (mCons (mApp sTup (mCons (mC (.str "stuvwx")) (mCons (mVar 5) mNil))) mNil))) mNil))) [5]))
  (cSet (.one 4) (mApp sTup (mCons (mApp sTuple (mCons (mVar 3) mNil)) (mCons (mApp sTup (mCons (mApp sTup (mCons (mC (.str "hgmnopr")) (mCons (mC (.int 0)) mNil))) (mCons (mApp sTup (mCons (mC (.str "lcde")) (mCons (mBin sSub (mVar 0) (mC (.int 1))) mNil))) mNil))) mNil)))))
theorem let15 (v1 v2 v3 v4 v5 : Option PV) (s : Sto) : ∃ u, letB [some (.int 15), v1, v2, v3, v4, v5] s = .nx [some (.int 15), v1, v2, u, some (lettersW 15).pv, v5] s := ⟨_, rfl⟩
end K61
set_option Elab.async false
set_option linter.all false
set_option maxRecDepth 100000
set_option maxHeartbeats 2000000
namespace K61
open PySem PySem.Spec PyProof.Rows L2 Sim Pg K01
theorem let22 (v1 v2 v3 v4 v5 : Option PV) (s : Sto) : ∃ u, letB [some (.int 22), v1, v2, v3, v4, v5] s = .nx [some (.int 22), v1, v2, u, some (lettersW 22).pv, v5] s := ⟨_, rfl⟩
theorem let29 (v1 v2 v3 v4 v5 : Option PV) (s : Sto) : ∃ u, letB [some (.int 29), v1, v2, v3, v4, v5] s = .nx [some (.int 29), v1, v2, u, some (lettersW 29).pv, v5] s := ⟨_, rfl⟩
def ifL (j : Nat) : MS := (cIf (bOr (bVal (mBin sNe (mApp (fnN 1 f_write__N) (mCons (mVar j) mNil)) (mApp (fnN 1 f__law_text) (mCons (mVar j) mNil)))) (bVal (mBin sNe (mApp (fnN 1 f_read__N) (mCons (mApp (fnN 1 f__law_text) (mCons (mVar j) mNil)) mNil)) (mVar j))))
  (cRet (mC (.bl false)))
  cNil)
theorem ifL_w {w : Web} (h : w.Ok) {j : Nat} {e : Lo} (he : e[j]? = some (some w.pv)) (s : Sto) : ifL j e s = .nx e s := by
  obtain ⟨a, b, c, d, f⟩ := same_text h
  unfold ifL
  simp_arith! [he, a, b, c, d, f]
def loopN : MS := (cFor (mIter (mVar 1)) (.one 2)
  (cIf (bVal (mBin (sIsn true) (mApp (fnN 1 f__law_read) (mCons (mVar 2) mNil)) (mC .non)))
  (cRet (mC (.bl false)))
  cNil))
theorem loopN_w {xs : List PV} (h : ∀ x ∈ xs, NoRd x) (v0 v2 v3 v4 v5 : Option PV) (s : Sto) {R : PV → Sto → Prop} {B C : Lo → Sto → Prop} : wO (loopN [v0, some (.lst xs), v2, v3, v4, v5] s) (fun e s2 => (∃ v2, e = [v0, some (.lst xs), v2, v3, v4, v5]) ∧ s2 = s) R B C := by
  have it : ∀ (xs : List PV) s, sIter (.lst xs) s = .ok xs s := fun _ _ => rfl
  have nn : ∀ s, sIsn true .non .non s = .ok (.bl false) s := fun _ => rfl
  unfold loopN
  simp_all_arith! [it]
  refine forget (P := NoRd) (I := fun e s2 => (∃ v2, e = [v0, some (.lst xs), v2, v3, v4, v5]) ∧ s2 = s) ?_ h ⟨⟨v2, rfl⟩, rfl⟩ (fun e s h => h)
  rintro x e s2 hx ⟨⟨v2, rfl⟩, rfl⟩
  refine ⟨[v0, some (.lst xs), some x, v3, v4, v5], rfl, ?_⟩
  have := hx s2
  simp_all_arith! [this, nn]
  exact ⟨⟨_, by first | rfl | trivial⟩, by first | rfl | trivial⟩
theorem letters_is : m__law_letters_good = (cSeq (cFor (mIter (mApp sLstF (mCons (mC (.int 15)) (mCons (mC (.int 22)) (mCons (mC (.int 29)) mNil))))) (.one 0)
    (cSeq (cSet (.one 3) (mLc (mRange1 (mVar 0)) (.one 5) bYes (mApp sTup (mCons (mC (.str "open")) (mCons (mApp sTup (mCons (mApp sTup (mCons (mC (.str "ijkqy")) (mCons (mApp sTup (mCons (mBin sSub (mBin sSub (mVar 0) (mC (.int 1))) (mVar 5)) mNil)) mNil))) (mCons (mApp sTup (mCons (mC (.str "stuvwx")) (mCons (mVar 5) mNil))) mNil))) mNil))) [5]))
    (cSeq (cSet (.one 4) (mApp sTup (mCons (mApp sTuple (mCons (mVar 3) mNil)) (mCons (mApp sTup (mCons (mApp sTup (mCons (mC (.str "hgmnopr")) (mCons (mC (.int 0)) mNil))) (mCons (mApp sTup (mCons (mC (.str "lcde")) (mCons (mBin sSub (mVar 0) (mC (.int 1))) mNil))) mNil))) mNil)))) (ifL 4))))
  (cSeq (cSet (.one 1) (mApp sLstF (mCons (mC (.str "a=0 a=0 b=0\nopen")) (mCons (mC (.str "b=0 a=0 c=0\nopen")) (mCons (mC (.str "A=0 b=0\nopen")) (mCons (mC (.str "a=0\nopen A=1 b=1")) mNil))))))
  (cSeq (cSet (.one 1) (mBin sAdd (mVar 1) (mApp sLstF (mCons (mC (.str "a=0\nopen b=1 a=1 c=1")) mNil))))
  (cSeq loopN
  (cRet (mC (.bl true))))))) := by
  delta Pg.m__law_letters_good ifL loopN
  rfl
theorem seq3 {a b c : MS} {e1 e2 : Lo} {s1 s2 : Sto} (h : cSeq a b e1 s1 = .nx e2 s2) : cSeq a (cSeq b c) e1 s1 = c e2 s2 := by
  unfold cSeq at h ⊢
  cases q : a e1 s1 with
  | nx e s =>
    rw [q] at h
    simp only at h ⊢
    rw [h]
  | _ => rw [q] at h; cases h
def odd5 : List Str := ["a=0 a=0 b=0\nopen", "b=0 a=0 c=0\nopen", "A=0 b=0\nopen", "a=0\nopen A=1 b=1", "a=0\nopen b=1 a=1 c=1"]
theorem odd5_no : odd5.all noP = true := by decide +kernel
theorem strs_no {zs : List Str} (h : zs.all noP = true) : ∀ x ∈ zs.map PV.str, NoRd x := fun x hx => by
  obtain ⟨z, hz, rfl⟩ := List.mem_map.mp hx
  exact no_strs h z hz
theorem letters_good (st : Sto) : f__law_letters_good [] st = .ok (.bl true) st := by
  refine w_eq ?_
  unfold f__law_letters_good
  refine w_defM ?_
  rw [letters_is]
  have IL : ∀ {w : Web}, w.Ok → ∀ {e : Lo}, e[4]? = some (some w.pv) → ∀ s, ifL 4 e s = .nx e s := fun h _ he s => ifL_w h he s
  have LN := @loopN_w
  have B15 := let15
  have B22 := let22
  have B29 := let29
  unfold letB at B15 B22 B29
  generalize ifL 4 = I4 at IL ⊢
  generalize loopN = L5 at LN ⊢
  refine w_cut (M := fun e s => (∃ v0 v3 v4 v5, e = [v0, none, none, v3, v4, v5]) ∧ s = st) ?_ ?_
  · rw [wO_for]
    show wR (Res.ok ([PV.int 15, .int 22, .int 29] : List PV) st) _
    rw [wR_ok]
    refine forget (P := fun x : PV => x = .int 15 ∨ x = .int 22 ∨ x = .int 29) (I := fun e s => (∃ v0 v3 v4 v5, e = [v0, none, none, v3, v4, v5]) ∧ s = st) ?_ (fun x hx => by simpa using hx) ⟨⟨none, none, none, none, rfl⟩, rfl⟩ (fun e s h => h)
    rintro x e s hx ⟨⟨v0, v3, v4, v5, rfl⟩, hs⟩
    rw [hs]
    refine ⟨[some x, none, none, v3, v4, v5], rfl, ?_⟩
    rcases hx with rfl | rfl | rfl
    · obtain ⟨v3', h⟩ := B15 none none v3 v4 v5 st
      rw [seq3 h, IL (letters_ok (.inl rfl)) rfl]
      exact ⟨⟨_, _, _, _, rfl⟩, rfl⟩
    · obtain ⟨v3', h⟩ := B22 none none v3 v4 v5 st
      rw [seq3 h, IL (letters_ok (.inr (.inl rfl))) rfl]
      exact ⟨⟨_, _, _, _, rfl⟩, rfl⟩
    · obtain ⟨v3', h⟩ := B29 none none v3 v4 v5 st
      rw [seq3 h, IL (letters_ok (.inr (.inr rfl))) rfl]
      exact ⟨⟨_, _, _, _, rfl⟩, rfl⟩
  rintro e s ⟨⟨v0, v3, v4, v5, rfl⟩, hs⟩
  rw [hs]
  clear hs s
  refine w_cut2 (M := fun e s => e = [v0, some (.lst (odd5.map PV.str)), none, v3, v4, v5] ∧ s = st) ?_ ?_
  · rw [wO_seq, wO_set1]
    show wR (Res.ok (PV.lst (([("a=0 a=0 b=0\nopen" : Str), "b=0 a=0 c=0\nopen", "A=0 b=0\nopen", "a=0\nopen A=1 b=1"]).map PV.str)) st) _
    rw [wR_ok, wO_set1]
    show wR (Res.ok (PV.lst (odd5.map PV.str)) st) _
    exact ⟨rfl, rfl⟩
  rintro e s ⟨rfl, hs⟩
  rw [hs]
  clear hs s
  refine w_cut (M := fun e s2 => (∃ v2, e = [v0, some (.lst (odd5.map PV.str)), v2, v3, v4, v5]) ∧ s2 = st) (LN (strs_no odd5_no) v0 none v3 v4 v5 st) ?_
  rintro e s ⟨⟨v2, rfl⟩, hs⟩
  rw [hs]
  have g : gc st (.bl true) st = .ok (.bl true) st := gc_bl st true
  simp_all_arith! [g]
  try exact ⟨trivial, trivial⟩
end K61
set_option Elab.async false
set_option linter.all false
set_option maxRecDepth 100000
set_option maxHeartbeats 2000000
namespace K61
open PySem PySem.Spec PyProof.Rows L2 Sim Pg K01
def p0 : MS := (cSet (.one 0) (mApp sLstM (mCons (mC (.str "f=01")) (mCons (mC (.str "f=-0")) (mCons (mC (.str "f=#1")) (mCons (mC (.str "f=#-1")) (mCons (mC (.str "f=")) (mCons (mC (.str "f")) (mCons (mC (.str "f=1 f=2")) (mCons (mC (.str "g=1 f=1")) (mCons (mC (.str "f=1234567890")) mNil)))))))))))
def p1 : MS := (cSet (.one 0) (mBin sAddM (mVar 0) (mApp sLstF (mCons (mC (.str "f=#00")) (mCons (mC (.str "F=1")) (mCons (mC (.str "f= 1")) mNil))))))
def p2 : MS := (cSet (.one 1) (mApp sLstF (mCons (mC .non) (mCons (mC (.bl true)) (mCons (mC (.int 0)) (mCons (mApp sLstF mNil) (mCons (mApp sTup mNil) (mCons (mC (.str "")) (mCons (mC (.str "a=0")) (mCons (mC (.str "a=0\n")) (mCons (mC (.str "a=0\nopen ")) (mCons (mC (.str "a=0\n open")) (mCons (mC (.str "a=00\nopen")) (mCons (mC (.str "a=1\nopen")) mNil))))))))))))))
def p3 : MS := (cSet (.one 0) (mBin sAddM (mVar 0) (mApp sLstF (mCons (mC (.str "a=1 b=1 c=1 d=1 e=1")) (mCons (mC (.str "abcdefghi=1")) (mCons (mBin sAdd (mC (.str "f=")) (mBin sMulS2 (mC (.str "1")) (mC (.int 5000)))) (mCons (mBin sAdd (mC (.str "f=#")) (mBin sMulS2 (mC (.str "1")) (mC (.int 5000)))) (mCons (mC (.str "f\t=1")) mNil))))))))
def p4 : MS := (cSet (.one 0) (mBin sAddM (mVar 0) (mApp sLstF (mCons (mC (.str "f=1 f")) (mCons (mC (.str "f=1_0")) (mCons (mC (.str "f=-1_0")) (mCons (mC (.str "f=#1_0")) (mCons (mC (.str "f=1\t")) (mCons (mC (.str "f=#0_0")) (mCons (mC (.str "f=+1")) mNil))))))))))
def p5 : MS := (cExpr (mAppend (mVar 0) (mBin sAdd (mBin sAdd (mC (.str "f=1\n")) (mBin sMulS (mC (.str "open\n")) (mC (.int 9)))) (mC (.str "open f=#1_0")))))
def p6 : MS := (cSet (.one 1) (mBin sAdd (mVar 1) (mApp sLstF (mCons (mC (.str "a=0 b=0 c=0 d=0 e=0 f=0 g=0\nopen")) (mCons (mC (.str "abcdefghi=0\nopen")) (mCons (mBin sAdd (mBin sAdd (mC (.str "a=")) (mBin sMulS2 (mC (.str "1")) (mC (.int 5000)))) (mC (.str "\nopen"))) mNil))))))
def p7 : MS := (cSet (.one 1) (mBin sAdd (mVar 1) (mApp sLstF (mCons (mC (.str "a=0\topen")) (mCons (mC (.str "a=0\nopen\tf=1")) (mCons (mC (.str "a=0\t\nopen")) (mCons (mC (.str "a=1 a=\nopen")) (mCons (mC (.str "a=1 a\nopen")) mNil))))))))
def p8 : MS := (cSet (.one 1) (mBin sAdd (mVar 1) (mApp sLstF (mCons (mBin sAdd (mC (.str "a=0")) (mBin sMulS (mC (.str "\nopen")) (mC (.int 31)))) mNil))))
def p9 : MS := (cSet (.one 1) (mBin sAdd (mVar 1) (mApp sLstF (mCons (mC (.str "b=0 a=0\nopen")) (mCons (mC (.str "a=0 a=0\nopen")) (mCons (mC (.str "a=-1\nopen")) (mCons (mC (.str "a=#0\nopen")) (mCons (mC (.str "\nopen")) (mCons (mApp sLstF (mCons (mC (.str "a=0")) mNil)) mNil)))))))))
def p10 : MS := (cSet (.one 1) (mBin sAdd (mVar 1) (mApp sLstF (mCons (mC (.str "a=0\nthawed")) mNil))))
def p11 : MS := (cIf (bNot (bVal (mApp sAll (mCons (mLc (mIter (mBin sAdd (mVar 1) (mLcW finF 0 (.one 13) bYes (mBin sAdd (mC (.str "a=0\nopen ")) (mVar 13)) [13]))) (.one 11) bYes (mBin (sIsn false) (mApp (fnN 1 f__law_read) (mCons (mVar 11) mNil)) (mC .non)) [11]) mNil))))
  (cRet (mC (.bl false)))
  cNil)
def p12 : MS := (cSet (.one 2) (mApp sTup (mCons (mC (.str "open")) (mCons (mApp sTup (mCons (mApp sTup (mCons (mC (.str "f")) (mCons (mC (.int 1)) mNil))) mNil)) mNil))))
def p13 : MS := (cSet (.one 3) (mApp sLstM (mCons (mC .non) (mCons (mApp sTup mNil) (mCons (mC (.str "a=0\nopen")) (mCons (mApp sLstF mNil) (mCons (mApp sTup (mCons (mApp sTup (mCons (mVar 2) mNil)) (mCons (mApp sTup (mCons (mApp sTup (mCons (mC (.str "a")) (mCons (mC (.int 1)) mNil))) mNil)) mNil))) (mCons (mApp sTup (mCons (mApp sTup (mCons (mVar 2) mNil)) (mCons (mApp sTup (mCons (mApp sTup (mCons (mC (.str "A")) (mCons (mC (.int 0)) mNil))) mNil)) mNil))) (mCons (mApp sTup (mCons (mBin sMul (mApp sTup (mCons (mVar 2) mNil)) (mC (.int 31))) (mCons (mApp sTup (mCons (mApp sTup (mCons (mC (.str "a")) (mCons (mC (.int 0)) mNil))) mNil)) mNil))) mNil)))))))))
def p14 : MS := (cFor (mIter (mApp sLstF (mCons (mApp sTup (mCons (mC (.int 1)) mNil)) (mCons (mC (.bl true)) (mCons (mBin sPow (mC (.int 10)) (mC (.int 9))) (mCons (mC .non) mNil)))))) (.one 4)
  (cExpr (mAppend (mVar 3) (mApp sTup (mCons (mApp sTup (mCons (mApp sTup (mCons (mC (.str "open")) (mCons (mApp sTup (mCons (mApp sTup (mCons (mC (.str "f")) (mCons (mVar 4) mNil))) mNil)) mNil))) mNil)) (mCons (mApp sTup (mCons (mApp sTup (mCons (mC (.str "a")) (mCons (mC (.int 0)) mNil))) mNil)) mNil))))))
def p15 : MS := (cIf (bNot (bVal (mApp sAll (mCons (mLcW finF 3 (.one 11) bYes (mApp (fnN 1 f__law_refused) (mCons (mVar 11) mNil)) [11]) mNil))))
  (cRet (mC (.bl false)))
  cNil)
def p16 : MS := (cSet (.one 5) (mApp sLstF (mCons (mBin sMulS (mC (.str "a")) (mC (.int 8))) (mCons (mBin sMulS (mC (.str "b")) (mC (.int 8))) (mCons (mC (.str "frozen")) (mCons (mC (.str "open")) (mCons (mBin sMulS (mC (.str "z")) (mC (.int 7))) (mCons (mBin sMulS (mC (.str "z")) (mC (.int 8))) mNil))))))))
def p17 : MS := (cSet (.one 6) (mApp sLstM mNil))
def p18 : MS := (cFor (mRange1 (mC (.int 30))) (.one 7)
  (cExpr (mAppend (mVar 6) (mApp sTup (mCons (mC (.str "frozen")) (mCons (mApp sTup (mCons (mApp sTup (mCons (mC (.str "aaaaaaaa")) (mCons (mUn sNeg (mC (.int 999999999))) mNil))) (mCons (mApp sTup (mCons (mC (.str "f")) (mCons (mApp sTup (mCons (mBin sSub (mC (.int 29)) (mVar 7)) mNil)) mNil))) (mCons (mApp sTup (mCons (mC (.str "frozen")) (mCons (mC (.int 999999999)) mNil))) (mCons (mApp sTup (mCons (mC (.str "open")) (mCons (mApp sTup (mCons (mVar 7) mNil)) mNil))) mNil))))) mNil))))))
def p19 : MS := (cSet (.one 8) (mApp sTup (mCons (mApp sTuple (mCons (mVar 6) mNil)) (mCons (mApp sTuple (mCons (mLc (mIter (mVar 5)) (.one 12) bYes (mApp sTup (mCons (mVar 12) (mCons (mC (.int 29)) mNil))) [12]) mNil)) mNil))))
def p20 : MS := (cIf (bOr (bVal (mBin sNe (mApp (fnN 1 f_write__N) (mCons (mVar 8) mNil)) (mApp (fnN 1 f__law_text) (mCons (mVar 8) mNil)))) (bVal (mBin sNe (mApp (fnN 1 f_read__N) (mCons (mApp (fnN 1 f__law_text) (mCons (mVar 8) mNil)) mNil)) (mVar 8))))
  (cRet (mC (.bl false)))
  cNil)
def p21 : MS := (cIf (bNot (bVal (mApp (fnN 0 f__law_letters_good) mNil)))
  (cRet (mC (.bl false)))
  cNil)
def p22 : MS := (cSet (.one 9) (mApp sLstF (mCons (mC (.str "a=0\nopen")) (mCons (mC (.str "a=0\nfrozen f=-999999999 g=#0")) (mCons (mC (.str "abcdefgh=1 b=0\nopen\nopen f=999999999")) mNil)))))
def p23 : MS := (cRet (mApp sAll (mCons (mLc (mIter (mVar 9)) (.one 10) bYes (mAnd (mBin (sIsn true) (mApp (fnN 1 f__law_read) (mCons (mVar 10) mNil)) (mC .non)) (mBin sEq (mApp (fnN 1 f_write__N) (mCons (mApp (fnN 1 f_read__N) (mCons (mVar 10) mNil)) mNil)) (mVar 10))) [10]) mNil)))
theorem fixed_is : m__law_fixed_good = cSeq p0 (cSeq p1 (cSeq p2 (cSeq p3 (cSeq p4 (cSeq p5 (cSeq p6 (cSeq p7 (cSeq p8 (cSeq p9 (cSeq p10 (cSeq p11 (cSeq p12 (cSeq p13 (cSeq p14 (cSeq p15 (cSeq p16 (cSeq p17 (cSeq p18 (cSeq p19 (cSeq p20 (cSeq p21 (cSeq p22 p23)))))))))))))))))))))) := by
  delta Pg.m__law_fixed_good p0 p1 p2 p3 p4 p5 p6 p7 p8 p9 p10 p11 p12 p13 p14 p15 p16 p17 p18 p19 p20 p21 p22 p23
  rfl
abbrev E14 (v0 v1 v2 v3 v4 v5 v6 v7 v8 v9 v10 v11 v12 v13 : Option PV) : Lo := [v0, v1, v2, v3, v4, v5, v6, v7, v8, v9, v10, v11, v12, v13]
theorem addM_ok {k : Nat} {s : Sto} {xs : List PV} (ys : List PV) (e : s[k]? = some (.lst xs)) (h : xs.length + ys.length ≤ 10000) : sAddM (.ref k) (.lst ys) s = .ok (.ref s.length) (s ++ [.lst (xs ++ ys)]) := by
  have f : fitL (xs ++ ys) = true := by unfold fitL; rw [List.length_append]; exact decide_eq_true (by omega)
  have a : asM s (.ref k) = some xs := by simp [asM, e]
  have b : asM s (.lst ys) = some ys := rfl
  simp only [sAddM, a, b, f, if_true]
def f0 : List Str := ["f=01", "f=-0", "f=#1", "f=#-1", "f=", "f", "f=1 f=2", "g=1 f=1", "f=1234567890"]
def f1 : List Str := ["f=#00", "F=1", "f= 1"]
def L5 : Str := repS "1" 5000
def f2 : List Str := ["a=1 b=1 c=1 d=1 e=1", "abcdefghi=1", "f=" ++ L5, "f=#" ++ L5, "f\t=1"]
def f3 : List Str := ["f=1 f", "f=1_0", "f=-1_0", "f=#1_0", "f=1\t", "f=#0_0", "f=+1"]
def fx : Str := "f=1\n" ++ repS "open\n" 9 ++ "open f=#1_0"
theorem L5_len : L5.length = 5000 := by
  have := rep_len "1" 5000
  rw [show (("1" : Str).length) = 1 by decide +kernel] at this
  exact this
theorem m5000 (s : Sto) : sMulS2 (.str "1") (.int 5000) s = .ok (.str L5) s := by
  have l : (repS "1" 5000).length = 5000 := L5_len
  have f : (decide ((2 : Int) ≤ 5000) && (decide ((5000 : Int) ≤ 10000) && (decide (1 ≤ ("1" : Str).length) && (decide (("1" : Str).length ≤ 100) && decide ((repS "1" 5000).length ≤ 1000000))))) = true := by
    rw [l]; decide +kernel
  show (if (decide ((2 : Int) ≤ 5000) && (decide ((5000 : Int) ≤ 10000) && (decide (1 ≤ ("1" : Str).length) && (decide (("1" : Str).length ≤ 100) && decide ((repS "1" 5000).length ≤ 1000000))))) = true then Res.ok (PV.str (repS "1" 5000)) s else .bad) = _
  rw [if_pos f]
  rfl
theorem sadd_str {a b : Str} (h : a.length + b.length ≤ 16777216) (s : Sto) : sAdd (.str a) (.str b) s = .ok (.str (a ++ b)) s := by
  show (if fitS a b = true then Res.ok (PV.str (a ++ b)) s else .bad) = _
  rw [if_pos (by unfold fitS; exact decide_eq_true h)]
theorem s0_ok (st : Sto) : p0 (E14 none none none none none none none none none none none none none none) st = .nx (E14 (some (.ref st.length)) none none none none none none none none none none none none none) (st ++ [.lst (f0.map PV.str)]) := rfl
theorem s1_ok {k : Nat} {s : Sto} (v1 v2 v3 v4 v5 v6 v7 v8 v9 v10 v11 v12 v13 : Option PV) (e : s[k]? = some (.lst (f0.map PV.str))) : p1 (E14 (some (.ref k)) v1 v2 v3 v4 v5 v6 v7 v8 v9 v10 v11 v12 v13) s = .nx (E14 (some (.ref s.length)) v1 v2 v3 v4 v5 v6 v7 v8 v9 v10 v11 v12 v13) (s ++ [.lst ((f0 ++ f1).map PV.str)]) := by
  have h := addM_ok (f1.map PV.str) e (by simp [f0, f1])
  rw [← List.map_append] at h
  unfold p1 cSet
  show (match sAddM (.ref k) (.lst (f1.map PV.str)) s with | .ok x s => _ | .exc n fs s => _ | .bad => _) = _
  rw [h]
  rfl
def g0 : List Str := ["", "a=0", "a=0\n", "a=0\nopen ", "a=0\n open", "a=00\nopen", "a=1\nopen"]
def S0 : List PV := [.non, .bl true, .int 0, .lst [], .tup []] ++ g0.map PV.str
def g1 : List Str := ["a=0 b=0 c=0 d=0 e=0 f=0 g=0\nopen", "abcdefghi=0\nopen", "a=" ++ L5 ++ "\nopen"]
def g2 : List Str := ["a=0\topen", "a=0\nopen\tf=1", "a=0\t\nopen", "a=1 a=\nopen", "a=1 a\nopen"]
def g3 : List Str := ["a=0" ++ repS "\nopen" 31]
def g4 : List Str := ["b=0 a=0\nopen", "a=0 a=0\nopen", "a=-1\nopen", "a=#0\nopen", "\nopen"]
def g5 : List Str := ["a=0\nthawed"]
section
variable (v0 v1 v2 v3 v4 v5 v6 v7 v8 v9 v10 v11 v12 v13 : Option PV) (s : Sto)
theorem s2_ok : p2 (E14 v0 v1 v2 v3 v4 v5 v6 v7 v8 v9 v10 v11 v12 v13) s = .nx (E14 v0 (some (.lst S0)) v2 v3 v4 v5 v6 v7 v8 v9 v10 v11 v12 v13) s := rfl
theorem s3_ok {k : Nat} {xs : List Str} (hx : xs.length ≤ 100) (e : s[k]? = some (.lst (xs.map PV.str))) : p3 (E14 (some (.ref k)) v1 v2 v3 v4 v5 v6 v7 v8 v9 v10 v11 v12 v13) s = .nx (E14 (some (.ref s.length)) v1 v2 v3 v4 v5 v6 v7 v8 v9 v10 v11 v12 v13) (s ++ [.lst ((xs ++ f2).map PV.str)]) := by
  have h := addM_ok (f2.map PV.str) e (by simp [f2]; omega)
  rw [← List.map_append] at h
  have a1 : sAdd (.str "f=") (.str L5) s = .ok (.str ("f=" ++ L5)) s := sadd_str (by rw [L5_len]; decide +kernel) s
  have a2 : sAdd (.str "f=#") (.str L5) s = .ok (.str ("f=#" ++ L5)) s := sadd_str (by rw [L5_len]; decide +kernel) s
  have l : sLstF [.str "a=1 b=1 c=1 d=1 e=1", .str "abcdefghi=1", .str ("f=" ++ L5), .str ("f=#" ++ L5), .str "f\t=1"] s = .ok (.lst (f2.map PV.str)) s := rfl
  unfold p3
  simp_arith! [m5000, a1, a2, l, h]
theorem s4_ok {k : Nat} {xs : List Str} (hx : xs.length ≤ 100) (e : s[k]? = some (.lst (xs.map PV.str))) : p4 (E14 (some (.ref k)) v1 v2 v3 v4 v5 v6 v7 v8 v9 v10 v11 v12 v13) s = .nx (E14 (some (.ref s.length)) v1 v2 v3 v4 v5 v6 v7 v8 v9 v10 v11 v12 v13) (s ++ [.lst ((xs ++ f3).map PV.str)]) := by
  have h := addM_ok (f3.map PV.str) e (by simp [f3]; omega)
  rw [← List.map_append] at h
  unfold p4 cSet
  show (match sAddM (.ref k) (.lst (f3.map PV.str)) s with | .ok x s => _ | .exc n fs s => _ | .bad => _) = _
  rw [h]
  rfl
theorem m9 : sMulS (.str "open\n") (.int 9) s = .ok (.str (repS "open\n" 9)) s := by
  have f : (decide ((2 : Int) ≤ 9) && (decide ((9 : Int) ≤ 100) && (decide (1 ≤ ("open\n" : Str).length) && (decide (("open\n" : Str).length ≤ 100) && decide ((repS "open\n" 9).length ≤ 10000))))) = true := by decide +kernel
  show (if (decide ((2 : Int) ≤ 9) && (decide ((9 : Int) ≤ 100) && (decide (1 ≤ ("open\n" : Str).length) && (decide (("open\n" : Str).length ≤ 100) && decide ((repS "open\n" 9).length ≤ 10000))))) = true then Res.ok (PV.str (repS "open\n" 9)) s else .bad) = _
  rw [if_pos f]
theorem m31 : sMulS (.str "\nopen") (.int 31) s = .ok (.str (repS "\nopen" 31)) s := by
  have f : (decide ((2 : Int) ≤ 31) && (decide ((31 : Int) ≤ 100) && (decide (1 ≤ ("\nopen" : Str).length) && (decide (("\nopen" : Str).length ≤ 100) && decide ((repS "\nopen" 31).length ≤ 10000))))) = true := by decide +kernel
  show (if (decide ((2 : Int) ≤ 31) && (decide ((31 : Int) ≤ 100) && (decide (1 ≤ ("\nopen" : Str).length) && (decide (("\nopen" : Str).length ≤ 100) && decide ((repS "\nopen" 31).length ≤ 10000))))) = true then Res.ok (PV.str (repS "\nopen" 31)) s else .bad) = _
  rw [if_pos f]
theorem s5_ok {k : Nat} {xs : List Str} (hx : xs.length ≤ 100) (e : s[k]? = some (.lst (xs.map PV.str))) : p5 (E14 (some (.ref k)) v1 v2 v3 v4 v5 v6 v7 v8 v9 v10 v11 v12 v13) s = .nx (E14 (some (.ref k)) v1 v2 v3 v4 v5 v6 v7 v8 v9 v10 v11 v12 v13) (s.set k (.lst ((xs ++ [fx]).map PV.str))) := by
  have a1 : sAdd (.str "f=1\n") (.str (repS "open\n" 9)) s = .ok (.str ("f=1\n" ++ repS "open\n" 9)) s := sadd_str (by decide +kernel) s
  have a2 : sAdd (.str ("f=1\n" ++ repS "open\n" 9)) (.str "open f=#1_0") s = .ok (.str fx) s := sadd_str (by decide +kernel) s
  obtain ⟨il, ap⟩ := app_set (.str fx) e (by rw [List.length_map]; omega)
  have m := m9 s
  unfold p5
  simp_arith! [mAppend, il, m, a1, a2, ap]
  rw [List.map_append]
  rfl
theorem s7_ok {xs : List PV} (hx : xs.length ≤ 100) : p7 (E14 v0 (some (.lst xs)) v2 v3 v4 v5 v6 v7 v8 v9 v10 v11 v12 v13) s = .nx (E14 v0 (some (.lst (xs ++ g2.map PV.str))) v2 v3 v4 v5 v6 v7 v8 v9 v10 v11 v12 v13) s := by
  have h := addL xs (g2.map PV.str) (by simp [g2]; omega) s
  unfold p7 cSet
  show (match sAdd (.lst xs) (.lst (g2.map PV.str)) s with | .ok x s => _ | .exc n fs s => _ | .bad => _) = _
  rw [h]
  rfl
theorem s8_ok {xs : List PV} (hx : xs.length ≤ 100) : p8 (E14 v0 (some (.lst xs)) v2 v3 v4 v5 v6 v7 v8 v9 v10 v11 v12 v13) s = .nx (E14 v0 (some (.lst (xs ++ g3.map PV.str))) v2 v3 v4 v5 v6 v7 v8 v9 v10 v11 v12 v13) s := by
  have h := addL xs (g3.map PV.str) (by simp [g3]; omega) s
  have m := m31 s
  have a1 : sAdd (.str "a=0") (.str (repS "\nopen" 31)) s = .ok (.str ("a=0" ++ repS "\nopen" 31)) s := sadd_str (by decide +kernel) s
  have l : sLstF [.str ("a=0" ++ repS "\nopen" 31)] s = .ok (.lst (g3.map PV.str)) s := rfl
  unfold p8
  simp_arith! [m, a1, l, h]
theorem s9_ok {xs : List PV} (hx : xs.length ≤ 100) : p9 (E14 v0 (some (.lst xs)) v2 v3 v4 v5 v6 v7 v8 v9 v10 v11 v12 v13) s = .nx (E14 v0 (some (.lst (xs ++ (g4.map PV.str ++ [.lst [.str "a=0"]])))) v2 v3 v4 v5 v6 v7 v8 v9 v10 v11 v12 v13) s := by
  have h := addL xs (g4.map PV.str ++ [.lst [.str "a=0"]]) (by simp [g4]; omega) s
  unfold p9 cSet
  show (match sAdd (.lst xs) (.lst (g4.map PV.str ++ [.lst [.str "a=0"]])) s with | .ok x s => _ | .exc n fs s => _ | .bad => _) = _
  rw [h]
  rfl
theorem s10_ok {xs : List PV} (hx : xs.length ≤ 100) : p10 (E14 v0 (some (.lst xs)) v2 v3 v4 v5 v6 v7 v8 v9 v10 v11 v12 v13) s = .nx (E14 v0 (some (.lst (xs ++ g5.map PV.str))) v2 v3 v4 v5 v6 v7 v8 v9 v10 v11 v12 v13) s := by
  have h := addL xs (g5.map PV.str) (by simp [g5]; omega) s
  unfold p10 cSet
  show (match sAdd (.lst xs) (.lst (g5.map PV.str)) s with | .ok x s => _ | .exc n fs s => _ | .bad => _) = _
  rw [h]
  rfl
end
end K61
set_option Elab.async false
set_option linter.all false
set_option maxRecDepth 100000
set_option maxHeartbeats 2000000
namespace K61
open PySem PySem.Spec PyProof.Rows L2 Sim Pg K01
def p6g (f : Se2) : MS := (cSet (.one 1) (mBin sAdd (mVar 1) (mApp sLstF (mCons (mC (.str "a=0 b=0 c=0 d=0 e=0 f=0 g=0\nopen")) (mCons (mC (.str "abcdefghi=0\nopen")) (mCons (mBin sAdd (mBin sAdd (mC (.str "a=")) (mBin f (mC (.str "1")) (mC (.int 5000)))) (mC (.str "\nopen"))) mNil))))))
theorem p6_is : p6 = p6g sMulS2 := rfl
theorem s6_gen {f : Se2} (v0 v2 v3 v4 v5 v6 v7 v8 v9 v10 v11 v12 v13 : Option PV) (s : Sto) {xs : List PV} (hx : xs.length ≤ 100) (Y : Str) (m5 : ∀ s, f (.str "1") (.int 5000) s = .ok (.str Y) s) (hY : Y.length = 5000) : p6g f (E14 v0 (some (.lst xs)) v2 v3 v4 v5 v6 v7 v8 v9 v10 v11 v12 v13) s = .nx (E14 v0 (some (.lst (xs ++ [.str "a=0 b=0 c=0 d=0 e=0 f=0 g=0\nopen", .str "abcdefghi=0\nopen", .str ("a=" ++ Y ++ "\nopen")]))) v2 v3 v4 v5 v6 v7 v8 v9 v10 v11 v12 v13) s := by
  have h := addL xs [.str "a=0 b=0 c=0 d=0 e=0 f=0 g=0\nopen", .str "abcdefghi=0\nopen", .str ("a=" ++ Y ++ "\nopen")] (by show _ + 3 ≤ _; omega) s
  have a1 : sAdd (.str "a=") (.str Y) s = .ok (.str ("a=" ++ Y)) s := sadd_str (by rw [hY]; decide +kernel) s
  have a2 : sAdd (.str ("a=" ++ Y)) (.str "\nopen") s = .ok (.str ("a=" ++ Y ++ "\nopen")) s := sadd_str (by rw [Str.length_append, hY]; decide +kernel) s
  have l : sLstF [.str "a=0 b=0 c=0 d=0 e=0 f=0 g=0\nopen", .str "abcdefghi=0\nopen", .str ("a=" ++ Y ++ "\nopen")] s = .ok (.lst [.str "a=0 b=0 c=0 d=0 e=0 f=0 g=0\nopen", .str "abcdefghi=0\nopen", .str ("a=" ++ Y ++ "\nopen")]) s := rfl
  unfold p6g
  simp_arith! [m5, a1, a2, l, h]
theorem s6_ok (v0 v2 v3 v4 v5 v6 v7 v8 v9 v10 v11 v12 v13 : Option PV) (s : Sto) {xs : List PV} (hx : xs.length ≤ 100) : p6 (E14 v0 (some (.lst xs)) v2 v3 v4 v5 v6 v7 v8 v9 v10 v11 v12 v13) s = .nx (E14 v0 (some (.lst (xs ++ g1.map PV.str))) v2 v3 v4 v5 v6 v7 v8 v9 v10 v11 v12 v13) s := by
  rw [p6_is]
  exact s6_gen v0 v2 v3 v4 v5 v6 v7 v8 v9 v10 v11 v12 v13 s hx L5 m5000 L5_len
/-! none of them is read -/
theorem cat_len (a b : Str) : (a ++ b).length = a.length + b.length := Str.length_append a b
theorem g_no : (g0 ++ g2 ++ g3 ++ g4 ++ g5 ++ (["a=0 b=0 c=0 d=0 e=0 f=0 g=0\nopen", "abcdefghi=0\nopen"] : List Str)).all noP = true := by decide +kernel
theorem f_no : ((f0 ++ f1 ++ (["a=1 b=1 c=1 d=1 e=1", "abcdefghi=1", "f\t=1"] : List Str) ++ f3 ++ [fx]).map fun f => ("a=0\nopen " : Str) ++ f).all noP = true := by decide +kernel
def SOME : List PV := S0 ++ g1.map PV.str ++ g2.map PV.str ++ g3.map PV.str ++ (g4.map PV.str ++ [.lst [.str "a=0"]]) ++ g5.map PV.str
def FL : List Str := f0 ++ f1 ++ f2 ++ f3 ++ [fx]
theorem some_no : ∀ x ∈ SOME, NoRd x := by
  have G := no_strs g_no
  have one : ∀ z : Str, z ∈ (g0 ++ g2 ++ g3 ++ g4 ++ g5 ++ (["a=0 b=0 c=0 d=0 e=0 f=0 g=0\nopen", "abcdefghi=0\nopen"] : List Str)) → NoRd (.str z) := G
  intro x hx
  unfold SOME S0 at hx
  simp only [List.mem_append] at hx
  rcases hx with ((((hx | hx) | hx) | hx) | (hx | hx)) | hx
  · rcases hx with hx | hx
    · simp only [List.mem_cons, List.not_mem_nil, or_false] at hx
      rcases hx with rfl | rfl | rfl | rfl | rfl <;> exact no_odd rfl rfl
    · obtain ⟨z, hz, rfl⟩ := List.mem_map.mp hx
      exact one z (by simp only [List.mem_append]; simp [hz])
  · obtain ⟨z, hz, rfl⟩ := List.mem_map.mp hx
    unfold g1 at hz
    simp only [List.mem_cons, List.not_mem_nil, or_false] at hz
    rcases hz with rfl | rfl | rfl
    · exact one _ (by simp)
    · exact one _ (by simp)
    · refine no_long ?_ ?_
      · rw [cat_len, cat_len, L5_len]; omega
      · rw [cat_len, cat_len, L5_len]
        have : ("a=" : Str).length = 2 := by decide +kernel
        have : ("\nopen" : Str).length = 5 := by decide +kernel
        omega
  · obtain ⟨z, hz, rfl⟩ := List.mem_map.mp hx
    exact one z (by simp only [List.mem_append]; simp [hz])
  · obtain ⟨z, hz, rfl⟩ := List.mem_map.mp hx
    exact one z (by simp only [List.mem_append]; simp [hz])
  · obtain ⟨z, hz, rfl⟩ := List.mem_map.mp hx
    exact one z (by simp only [List.mem_append]; simp [hz])
  · rw [List.mem_singleton.mp hx]; exact no_odd rfl rfl
  · obtain ⟨z, hz, rfl⟩ := List.mem_map.mp hx
    exact one z (by simp only [List.mem_append]; simp [hz])
theorem fl_no : ∀ f ∈ FL, NoRd (.str (("a=0\nopen " : Str) ++ f)) := by
  have F := no_strs f_no
  have one : ∀ f : Str, f ∈ (f0 ++ f1 ++ (["a=1 b=1 c=1 d=1 e=1", "abcdefghi=1", "f\t=1"] : List Str) ++ f3 ++ [fx]) → NoRd (.str (("a=0\nopen " : Str) ++ f)) := fun f hf => F _ (List.mem_map.mpr ⟨f, hf, rfl⟩)
  intro f hf
  unfold FL at hf
  simp only [List.mem_append] at hf
  rcases hf with (((hf | hf) | hf) | hf) | hf
  · exact one f (by simp only [List.mem_append]; simp [hf])
  · exact one f (by simp only [List.mem_append]; simp [hf])
  · unfold f2 at hf
    simp only [List.mem_cons, List.not_mem_nil, or_false] at hf
    have l0 : ("a=0\nopen " : Str).length = 9 := by decide +kernel
    have l1 : ("f=" : Str).length = 2 := by decide +kernel
    have l2 : ("f=#" : Str).length = 3 := by decide +kernel
    rcases hf with rfl | rfl | rfl | rfl | rfl
    · exact one _ (by simp)
    · exact one _ (by simp)
    · exact no_long (by rw [cat_len, cat_len, L5_len]; omega) (by rw [cat_len, cat_len, L5_len]; omega)
    · exact no_long (by rw [cat_len, cat_len, L5_len]; omega) (by rw [cat_len, cat_len, L5_len]; omega)
    · exact one _ (by simp)
  · exact one f (by simp only [List.mem_append]; simp [hf])
  · exact one f (by simp only [List.mem_append]; simp [hf])
end K61
set_option Elab.async false
set_option linter.all false
set_option maxRecDepth 100000
set_option maxHeartbeats 2000000
namespace K61
open PySem PySem.Spec PyProof.Rows L2 Sim Pg K01
theorem all_none {xs : List PV} (h : ∀ x ∈ xs, NoRd x) (env0 : Lo) (hl : env0.length = 14) (s : Sto) : lcGo (.one 11) bYes (mBin (sIsn false) (mApp (fnN 1 f__law_read) (mCons (mVar 11) mNil)) (mC .non)) env0 xs s = .ok (xs.map fun _ => .bl true) s := by
  refine lcGo_maps (fun _ => .bl true) fun x hx => ⟨_, rfl, ?_⟩
  have r := h x hx s
  have nn : ∀ s, sIsn false .non .non s = .ok (.bl true) s := fun _ => rfl
  have g : (env0.set 11 (some x))[11]? = some (some x) := by simp [hl]
  simp_arith! [g, r, nn]
theorem all_true {xs : List PV} (s : Sto) : sAll [.lst (xs.map fun _ => .bl true)] s = .ok (.bl true) s := by
  rw [sall_map (g := fun _ => true)]
  congr 2
  simp
theorem FL_len : ∀ f ∈ FL, f.length ≤ 6000 := by
  have F : ((f0 ++ f1 ++ (["a=1 b=1 c=1 d=1 e=1", "abcdefghi=1", "f\t=1"] : List Str) ++ f3 ++ [fx]).all fun f => decide (f.length ≤ 6000)) = true := by decide +kernel
  have one : ∀ f : Str, f ∈ (f0 ++ f1 ++ (["a=1 b=1 c=1 d=1 e=1", "abcdefghi=1", "f\t=1"] : List Str) ++ f3 ++ [fx]) → f.length ≤ 6000 := fun f hf => of_decide_eq_true (List.all_eq_true.mp F f hf)
  intro f hf
  unfold FL at hf
  simp only [List.mem_append] at hf
  rcases hf with (((hf | hf) | hf) | hf) | hf
  · exact one f (by simp only [List.mem_append]; simp [hf])
  · exact one f (by simp only [List.mem_append]; simp [hf])
  · unfold f2 at hf
    simp only [List.mem_cons, List.not_mem_nil, or_false] at hf
    have l1 : ("f=" : Str).length = 2 := by decide +kernel
    have l2 : ("f=#" : Str).length = 3 := by decide +kernel
    rcases hf with rfl | rfl | rfl | rfl | rfl
    · exact one _ (by simp)
    · exact one _ (by simp)
    · rw [cat_len, L5_len]; omega
    · rw [cat_len, L5_len]; omega
    · exact one _ (by simp)
  · exact one f (by simp only [List.mem_append]; simp [hf])
  · exact one f (by simp only [List.mem_append]; simp [hf])
theorem FL_26 : FL.length = 25 ∧ SOME.length = 28 := ⟨rfl, rfl⟩
theorem walk_ok {i k : Nat} {t : Tgt} {m : M} {vs : List Nat} {env : Lo} {s : Sto} {xs ys : List PV} (hi : env[i]? = some (some (.ref k))) (e : s[k]? = some (.lst xs)) (f : fitL xs = true) (h : lcGoW (isAt k xs) t bYes m (wipeL env vs) xs s = .ok ys s) : mLcW finF i t bYes m vs env s = .ok (.lst ys) s := by
  simp only [mLcW, hi, e, f, if_true, h, Res.bind_ok, finF]
section
variable (v2 v3 v4 v5 v6 v7 v8 v9 v10 v11 v12 v13 : Option PV) (s : Sto)
theorem s11_ok {k : Nat} (e : s[k]? = some (.lst (FL.map PV.str))) : p11 (E14 (some (.ref k)) (some (.lst SOME)) v2 v3 v4 v5 v6 v7 v8 v9 v10 v11 v12 v13) s = .nx (E14 (some (.ref k)) (some (.lst SOME)) v2 v3 v4 v5 v6 v7 v8 v9 v10 v11 v12 v13) s := by
  obtain ⟨n1, n2⟩ := FL_26
  have fl : fitL (FL.map PV.str) = true := by unfold fitL; rw [List.length_map, n1]; rfl
  have w := walk_ok (i := 0) (k := k) (t := .one 13) (m := mBin sAdd (mC (.str "a=0\nopen ")) (mVar 13)) (vs := [13]) (env := E14 (some (.ref k)) (some (.lst SOME)) v2 v3 v4 v5 v6 v7 v8 v9 v10 v11 v12 v13) (s := s) (xs := FL.map PV.str) (ys := FL.map fun f => .str (("a=0\nopen " : Str) ++ f)) rfl e fl (lcGoW_rel (isAt_of e) PV.str (fun f => .str (("a=0\nopen " : Str) ++ f)) FL fun f hf => by
    refine ⟨_, rfl, ?_⟩
    have l0 : ("a=0\nopen " : Str).length = 9 := by decide +kernel
    have a := sadd_str (a := "a=0\nopen ") (b := f) (by rw [l0]; have := FL_len f hf; omega) s
    simp only [wipeL]
    simp_arith! [a])
  have ad := addL SOME (FL.map fun f => .str (("a=0\nopen " : Str) ++ f)) (by rw [n2, List.length_map, n1]; decide) s
  have hn : ∀ x ∈ SOME ++ FL.map (fun f => PV.str (("a=0\nopen " : Str) ++ f)), NoRd x := by
    intro x hx
    rcases List.mem_append.mp hx with hx | hx
    · exact some_no x hx
    · obtain ⟨f, hf, rfl⟩ := List.mem_map.mp hx
      exact fl_no f hf
  have fl2 : fitL (SOME ++ FL.map fun f => PV.str (("a=0\nopen " : Str) ++ f)) = true := by unfold fitL; rw [List.length_append, List.length_map, n1, n2]; rfl
  generalize (FL.map fun f => PV.str (("a=0\nopen " : Str) ++ f)) = YS at w ad hn fl2
  generalize SOME = XS at w ad hn fl2 ⊢
  have an := all_none hn (wipeL (E14 (some (.ref k)) (some (.lst XS)) v2 v3 v4 v5 v6 v7 v8 v9 v10 v11 v12 v13) [11]) rfl s
  have at_ := all_true (xs := XS ++ YS) s
  unfold p11
  generalize mLcW finF 0 (.one 13) bYes (mBin sAdd (mC (.str "a=0\nopen ")) (mVar 13)) [13] = MW at w ⊢
  unfold mLc
  simp_arith! [w, ad, fl2, an, at_]
end
end K61
set_option Elab.async false
set_option linter.all false
set_option maxRecDepth 100000
set_option maxHeartbeats 2000000
namespace K61
open PySem PySem.Spec PyProof.Rows L2 Sim Pg K01
def oneP : PV := .tup [.str "open", .tup [.tup [.str "f", .int 1]]]
def nmA (k : Str) (i : Int) : PV := .tup [.tup [.str k, .int i]]
def ODD0 : List PV := [.non, .tup [], .str "a=0\nopen", .lst [], .tup [.tup [oneP], nmA "a" 1], .tup [.tup [oneP], nmA "A" 0], .tup [.tup (List.replicate 31 oneP), nmA "a" 0]]
def oddF (v : PV) : PV := .tup [.tup [.tup [.str "open", .tup [.tup [.str "f", v]]]], nmA "a" 0]
def vals4 : List PV := [.tup [.int 1], .bl true, .int 1000000000, .non]
theorem odd_ref : ∀ x ∈ ODD0 ++ vals4.map oddF, Refd x := by
  have h : ((ODD0 ++ vals4.map oddF).all refP) = true := by decide +kernel
  exact fun x hx => ref_data (List.all_eq_true.mp h x hx)
def obF (k : Nat) : Ob := ⟨"frozen", [("aaaaaaaa", .int (-999999999)), ("f", .ref (29 - k)), ("frozen", .int 999999999), ("open", .ref k)]⟩
def W6 : List Str := ["aaaaaaaa", "bbbbbbbb", "frozen", "open", "zzzzzzz", "zzzzzzzz"]
def fullW : Web := ⟨(List.range 30).map obF, W6.map fun w => (w, 29)⟩
theorem full_ok : fullW.Ok := ok_of (by decide +kernel)
section
variable (v0 v1 v2 v3 v4 v5 v6 v7 v8 v9 v10 v11 v12 v13 : Option PV) (s : Sto)
theorem s12_ok : p12 (E14 v0 v1 v2 v3 v4 v5 v6 v7 v8 v9 v10 v11 v12 v13) s = .nx (E14 v0 v1 (some oneP) v3 v4 v5 v6 v7 v8 v9 v10 v11 v12 v13) s := rfl
theorem s13_ok : p13 (E14 v0 v1 (some oneP) v3 v4 v5 v6 v7 v8 v9 v10 v11 v12 v13) s = .nx (E14 v0 v1 (some oneP) (some (.ref s.length)) v4 v5 v6 v7 v8 v9 v10 v11 v12 v13) (s ++ [.lst ODD0]) := rfl
theorem s14_w {k : Nat} (hk : k < s.length) (e : s[k]? = some (.lst ODD0)) {R : PV → Sto → Prop} {B C : Lo → Sto → Prop} : wO (p14 (E14 v0 v1 v2 (some (.ref k)) v4 v5 v6 v7 v8 v9 v10 v11 v12 v13) s) (fun e s2 => (∃ v4, e = E14 v0 v1 v2 (some (.ref k)) v4 v5 v6 v7 v8 v9 v10 v11 v12 v13) ∧ s2 = s.set k (.lst (ODD0 ++ vals4.map oddF))) R B C := by
  unfold p14
  rw [wO_for]
  show wR (Res.ok vals4 s) _
  rw [wR_ok]
  refine w_forGo (I := fun xs e2 s2 => ∃ (d : List PV) (v4 : Option PV), d.length + xs.length ≤ 20 ∧ e2 = E14 v0 v1 v2 (some (.ref k)) v4 v5 v6 v7 v8 v9 v10 v11 v12 v13 ∧ s2 = s.set k (.lst d) ∧ d ++ xs.map oddF = ODD0 ++ vals4.map oddF) ?_ ?_ ⟨ODD0, v4, by decide, rfl, ?_, rfl⟩
  · rintro x xs e2 s2 ⟨d, v4, hl, rfl, rfl, ht⟩
    refine ⟨E14 v0 v1 v2 (some (.ref k)) (some x) v5 v6 v7 v8 v9 v10 v11 v12 v13, rfl, ?_⟩
    rw [List.length_cons] at hl
    obtain ⟨il, ap⟩ := app_set (k := k) (s := s.set k (.lst d)) (xs := d) (oddF x) (by simp [hk]) (by omega)
    have st : mApp sTup (mCons (mApp sTup (mCons (mApp sTup (mCons (mC (.str "open")) (mCons (mApp sTup (mCons (mApp sTup (mCons (mC (.str "f")) (mCons (mVar 4) mNil))) mNil)) mNil))) mNil)) (mCons (mApp sTup (mCons (mApp sTup (mCons (mC (.str "a")) (mCons (mC (.int 0)) mNil))) mNil)) mNil)) (E14 v0 v1 v2 (some (.ref k)) (some x) v5 v6 v7 v8 v9 v10 v11 v12 v13) (s.set k (.lst d)) = .ok (oddF x) (s.set k (.lst d)) := rfl
    generalize mApp sTup (mCons (mApp sTup (mCons (mApp sTup (mCons (mC (.str "open")) (mCons (mApp sTup (mCons (mApp sTup (mCons (mC (.str "f")) (mCons (mVar 4) mNil))) mNil)) mNil))) mNil)) (mCons (mApp sTup (mCons (mApp sTup (mCons (mC (.str "a")) (mCons (mC (.int 0)) mNil))) mNil)) mNil)) = M at st ⊢
    simp_all_arith! [mAppend, il, st, ap]
    exact ⟨d ++ [oddF x], _, by rw [List.length_append]; show _ + 1 + _ ≤ _; omega, by first | rfl | trivial, by rw [List.set_set], by rw [← ht, List.append_assoc]; rfl⟩
  · rintro e2 s2 ⟨d, v4, hl, rfl, rfl, ht⟩
    rw [List.map_nil, List.append_nil] at ht
    exact ⟨⟨v4, rfl⟩, by rw [ht]⟩
  · obtain ⟨hk2, e⟩ := List.getElem?_eq_some_iff.mp e
    rw [← e, List.set_getElem_self]
theorem s15_ok {k : Nat} (e : s[k]? = some (.lst (ODD0 ++ vals4.map oddF))) : p15 (E14 v0 v1 v2 (some (.ref k)) v4 v5 v6 v7 v8 v9 v10 v11 v12 v13) s = .nx (E14 v0 v1 v2 (some (.ref k)) v4 v5 v6 v7 v8 v9 v10 v11 v12 v13) s := by
  have hr := odd_ref
  have fl : fitL (ODD0 ++ vals4.map oddF) = true := by decide +kernel
  generalize ODD0 ++ vals4.map oddF = XS at e hr fl
  have w := walk_ok (i := 3) (k := k) (t := .one 11) (m := mApp (fnN 1 f__law_refused) (mCons (mVar 11) mNil)) (vs := [11]) (env := E14 v0 v1 v2 (some (.ref k)) v4 v5 v6 v7 v8 v9 v10 v11 v12 v13) (s := s) (xs := XS) (ys := XS.map fun _ => .bl true) rfl e fl (by
    have := lcGoW_rel (I := isAt k XS) (isAt_of e) (t := .one 11) (m := mApp (fnN 1 f__law_refused) (mCons (mVar 11) mNil)) (env0 := wipeL (E14 v0 v1 v2 (some (.ref k)) v4 v5 v6 v7 v8 v9 v10 v11 v12 v13) [11]) (fun x : PV => x) (fun _ => .bl true) XS fun x hx => by
      refine ⟨_, rfl, ?_⟩
      have r := hr x hx s
      simp only [wipeL]
      simp_arith! [r]
    rw [List.map_id'] at this
    exact this)
  have at_ := all_true (xs := XS) s
  unfold p15
  generalize mLcW finF 3 (.one 11) bYes (mApp (fnN 1 f__law_refused) (mCons (mVar 11) mNil)) [11] = MW at w ⊢
  simp_arith! [w, at_]
end
end K61
set_option Elab.async false
set_option linter.all false
set_option maxRecDepth 100000
set_option maxHeartbeats 2000000
namespace K61
open PySem PySem.Spec PyProof.Rows L2 Sim Pg K01
def T3 : List Str := ["a=0\nopen", "a=0\nfrozen f=-999999999 g=#0", "abcdefgh=1 b=0\nopen\nopen f=999999999"]
theorem T3_ok : T3.all (fun z => (TL.tl z).all (fun c => decide (c < 128)) && (decide ((TL.tl z).length ≤ 3000) && rdP (TL.tl z))) = true := by decide +kernel
section
variable (v0 v1 v2 v3 v4 v5 v6 v7 v8 v9 v10 v11 v12 v13 : Option PV) (s : Sto)
theorem s16_ok : p16 (E14 v0 v1 v2 v3 v4 v5 v6 v7 v8 v9 v10 v11 v12 v13) s = .nx (E14 v0 v1 v2 v3 v4 (some (.lst (W6.map PV.str))) v6 v7 v8 v9 v10 v11 v12 v13) s := rfl
theorem s17_ok : p17 (E14 v0 v1 v2 v3 v4 v5 v6 v7 v8 v9 v10 v11 v12 v13) s = .nx (E14 v0 v1 v2 v3 v4 v5 (some (.ref s.length)) v7 v8 v9 v10 v11 v12 v13) (s ++ [.lst []]) := rfl
def objM : M := (mApp sTup (mCons (mC (.str "frozen")) (mCons (mApp sTup (mCons (mApp sTup (mCons (mC (.str "aaaaaaaa")) (mCons (mUn sNeg (mC (.int 999999999))) mNil))) (mCons (mApp sTup (mCons (mC (.str "f")) (mCons (mApp sTup (mCons (mBin sSub (mC (.int 29)) (mVar 7)) mNil)) mNil))) (mCons (mApp sTup (mCons (mC (.str "frozen")) (mCons (mC (.int 999999999)) mNil))) (mCons (mApp sTup (mCons (mC (.str "open")) (mCons (mApp sTup (mCons (mVar 7) mNil)) mNil))) mNil))))) mNil)))
theorem p18_is : p18 = cFor (mRange1 (mC (.int 30))) (.one 7) (cExpr (mAppend (mVar 6) objM)) := rfl
theorem objM_ok {n : Nat} (hn : n ≤ 29) : objM (E14 v0 v1 v2 v3 v4 v5 v6 (some (.int (n : Nat))) v8 v9 v10 v11 v12 v13) s = .ok (obF n).pv s := by
  have e : sSub (.int 29) (.int (n : Nat)) s = .ok (.int ((29 - n : Nat) : Int)) s := by
    show Res.ok (PV.int (29 - (n : Nat))) s = _
    congr 2
    omega
  have n1 : sNeg (.int 999999999) s = .ok (.int (-999999999)) s := rfl
  have t1 : ∀ a s, sTup [a] s = .ok (.tup [a]) s := fun _ _ => rfl
  have t2 : ∀ a b s, sTup [a, b] s = .ok (.tup [a, b]) s := fun _ _ _ => rfl
  have t4 : ∀ a b c d s, sTup [a, b, c, d] s = .ok (.tup [a, b, c, d]) s := fun _ _ _ _ _ => rfl
  unfold objM
  simp_arith! [e, n1, t1, t2, t4]
  rfl
theorem s18_w {k : Nat} (hk : k < s.length) (e : s[k]? = some (.lst [])) {R : PV → Sto → Prop} {B C : Lo → Sto → Prop} : wO (p18 (E14 v0 v1 v2 v3 v4 v5 (some (.ref k)) v7 v8 v9 v10 v11 v12 v13) s) (fun e s2 => (∃ v7, e = E14 v0 v1 v2 v3 v4 v5 (some (.ref k)) v7 v8 v9 v10 v11 v12 v13) ∧ s2 = s.set k (.lst (((List.range 30).map obF).map Ob.pv))) R B C := by
  have OM := @objM_ok
  rw [p18_is]
  generalize objM = M at OM ⊢
  rw [wO_for]
  show wR (Res.ok ((List.range 30).map fun n => PV.int (n : Nat)) s) _
  rw [wR_ok]
  refine w_forGo (I := fun xs e2 s2 => ∃ (ns : List Nat) (d : List Ob) (v7 : Option PV), xs = ns.map (fun n => PV.int (n : Nat)) ∧ (∀ n ∈ ns, n ≤ 29) ∧ d.length + ns.length ≤ 30 ∧ e2 = E14 v0 v1 v2 v3 v4 v5 (some (.ref k)) v7 v8 v9 v10 v11 v12 v13 ∧ s2 = s.set k (.lst (d.map Ob.pv)) ∧ d ++ ns.map obF = (List.range 30).map obF) ?_ ?_ ⟨List.range 30, [], v7, rfl, fun n hn => by have := List.mem_range.mp hn; omega, by decide, rfl, ?_, rfl⟩
  · rintro x xs e2 s2 ⟨ns, d, v7, ex, hn, hl, rfl, rfl, ht⟩
    match ns, ex, hn, hl, ht with
    | n :: ns, ex, hn, hl, ht =>
      rw [List.map_cons, List.cons.injEq] at ex
      obtain ⟨rfl, rfl⟩ := ex
      refine ⟨E14 v0 v1 v2 v3 v4 v5 (some (.ref k)) (some (.int (n : Nat))) v8 v9 v10 v11 v12 v13, rfl, ?_⟩
      rw [List.length_cons] at hl
      obtain ⟨il, ap⟩ := app_set (k := k) (s := s.set k (.lst (d.map Ob.pv))) (xs := d.map Ob.pv) (obF n).pv (by simp [hk]) (by rw [List.length_map]; omega)
      have st := OM v0 v1 v2 v3 v4 v5 (some (.ref k)) v8 v9 v10 v11 v12 v13 (s.set k (.lst (d.map Ob.pv))) (hn n (List.mem_cons_self ..))
      simp_all_arith! [mAppend, il, st, ap]
      refine ⟨ns, d ++ [obF n], _, by first | rfl | trivial, fun m hm => hn m (List.mem_cons_of_mem _ hm), by rw [List.length_append]; show _ + 1 + _ ≤ _; omega, by first | rfl | trivial, ?_, ?_⟩
      · rw [List.set_set, List.map_append]; rfl
      · rw [← ht, List.append_assoc]; rfl
  · rintro e2 s2 ⟨ns, d, v7, ex, hn, hl, rfl, rfl, ht⟩
    have : ns = [] := by
      cases ns with
      | nil => rfl
      | cons p ps => cases ex
    subst this
    rw [List.map_nil, List.append_nil] at ht
    exact ⟨⟨v7, rfl⟩, by rw [ht]⟩
  · obtain ⟨hk2, e⟩ := List.getElem?_eq_some_iff.mp e
    show s = s.set k (.lst [])
    rw [← e, List.set_getElem_self]
theorem s19_ok {k : Nat} (e : s[k]? = some (.lst (((List.range 30).map obF).map Ob.pv))) : p19 (E14 v0 v1 v2 v3 v4 (some (.lst (W6.map PV.str))) (some (.ref k)) v7 v8 v9 v10 v11 v12 v13) s = .nx (E14 v0 v1 v2 v3 v4 (some (.lst (W6.map PV.str))) (some (.ref k)) v7 (some fullW.pv) v9 v10 v11 v12 v13) s := by
  have t1 : sTuple [.ref k] s = .ok (.tup (((List.range 30).map obF).map Ob.pv)) s := by simp [sTuple, asL, e]
  have lc : mLc (mIter (mVar 5)) (.one 12) bYes (mApp sTup (mCons (mVar 12) (mCons (mC (.int 29)) mNil))) [12] (E14 v0 v1 v2 v3 v4 (some (.lst (W6.map PV.str))) (some (.ref k)) v7 v8 v9 v10 v11 v12 v13) s = .ok (.lst ((W6.map fun w => (w, 29)).map npv)) s := rfl
  have t2 : sTuple [.lst ((W6.map fun w => (w, 29)).map npv)] s = .ok (.tup ((W6.map fun w => (w, 29)).map npv)) s := rfl
  have t3 : sTup [.tup (((List.range 30).map obF).map Ob.pv), .tup ((W6.map fun w => (w, 29)).map npv)] s = .ok fullW.pv s := rfl
  unfold p19
  generalize mLc (mIter (mVar 5)) (.one 12) bYes (mApp sTup (mCons (mVar 12) (mCons (mC (.int 29)) mNil))) [12] = ML at lc ⊢
  simp_arith! [t1, lc, t2, t3]
theorem s20_ok : p20 (E14 v0 v1 v2 v3 v4 v5 v6 v7 (some fullW.pv) v9 v10 v11 v12 v13) s = .nx (E14 v0 v1 v2 v3 v4 v5 v6 v7 (some fullW.pv) v9 v10 v11 v12 v13) s := ifL_w full_ok (j := 8) rfl s
theorem s21_ok : p21 (E14 v0 v1 v2 v3 v4 v5 v6 v7 v8 v9 v10 v11 v12 v13) s = .nx (E14 v0 v1 v2 v3 v4 v5 v6 v7 v8 v9 v10 v11 v12 v13) s := by
  have l := letters_good s
  unfold p21
  simp_arith! [l]
theorem s22_ok : p22 (E14 v0 v1 v2 v3 v4 v5 v6 v7 v8 v9 v10 v11 v12 v13) s = .nx (E14 v0 v1 v2 v3 v4 v5 v6 v7 v8 (some (.lst (T3.map PV.str))) v10 v11 v12 v13) s := rfl
theorem s23_ok : p23 (E14 v0 v1 v2 v3 v4 v5 v6 v7 v8 (some (.lst (T3.map PV.str))) v10 v11 v12 v13) s = .rt (.bl true) s := by
  have fl : fitL (T3.map PV.str) = true := rfl
  have it : ∀ (xs : List PV) s, sIter (.lst xs) s = .ok xs s := fun _ _ => rfl
  have lc : lcGo (.one 10) bYes (mAnd (mBin (sIsn true) (mApp (fnN 1 f__law_read) (mCons (mVar 10) mNil)) (mC .non)) (mBin sEq (mApp (fnN 1 f_write__N) (mCons (mApp (fnN 1 f_read__N) (mCons (mVar 10) mNil)) mNil)) (mVar 10))) (wipeL (E14 v0 v1 v2 v3 v4 v5 v6 v7 v8 (some (.lst (T3.map PV.str))) v10 v11 v12 v13) [10]) (T3.map PV.str) s = .ok (T3.map fun _ => .bl true) s :=
    lcGo_rel PV.str (fun _ => .bl true) T3 fun z hz => by
      refine ⟨_, rfl, ?_⟩
      have h := List.all_eq_true.mp T3_ok z hz
      simp only [Bool.and_eq_true, decide_eq_true_eq] at h
      obtain ⟨ha, hl, hr⟩ := h
      have lr := law_read_ok (t := TL.tl z) (fun c hc => of_decide_eq_true (List.all_eq_true.mp ha c hc)) (by omega) s
      obtain ⟨w, ew, hw, et⟩ := rd_web hr
      rw [hr, if_pos rfl, ew] at lr
      have rd := read_yesN hw s
      have wr := write_ok hw s
      rw [et] at rd wr
      have zz : SV (TL.tl z) = .str z := congrArg PV.str (tl_S z)
      rw [zz] at lr rd wr
      have n1 : sIsn true w.pv .non s = .ok (.bl true) s := rfl
      have e1 : sEq (.str z) (.str z) s = .ok (.bl true) s := by
        have : flatEq (.str z) (.str z) = some true := by simp [flatEq]
        simp only [sEqn, this]
        rfl
      simp only [wipeL]
      simp_arith! [lr, n1, rd, wr, e1]
  have al : sAll [.lst (T3.map fun _ => .bl true)] s = .ok (.bl true) s := rfl
  unfold p23
  unfold mLc
  simp_arith! [it, fl, lc, al]
end
end K61
set_option Elab.async false
set_option linter.all false
set_option maxRecDepth 100000
set_option maxHeartbeats 2000000
namespace K61
open PySem PySem.Spec PyProof.Rows L2 Sim Pg K01
theorem fixed_good (st : Sto) : f__law_fixed_good [] st = .ok (.bl true) st := by
  refine w_eq ?_
  unfold f__law_fixed_good
  refine w_defM ?_
  rw [fixed_is]
  have gl : ∀ (A : Sto) (x : MO), (A ++ [x])[A.length]? = some x := fun A x => by simp
  have sl : ∀ (A : Sto) (x y : MO), (A ++ [x]).set A.length y = A ++ [y] := fun A x y => by simp
  have ll : ∀ (A : Sto) (x : MO), A.length < (A ++ [x]).length := fun A x => by simp
  have S0_ := s0_ok st
  have S1_ := @s1_ok
  have S2_ := @s2_ok
  have S3_ := @s3_ok
  have S4_ := @s4_ok
  have S5_ := @s5_ok
  have S6_ := @s6_ok
  have S7_ := @s7_ok
  have S8_ := @s8_ok
  have S9_ := @s9_ok
  have S10_ := @s10_ok
  have S11_ := @s11_ok
  have S12_ := @s12_ok
  have S13_ := @s13_ok
  have S14_ := @s14_w
  have S15_ := @s15_ok
  have S16_ := @s16_ok
  have S17_ := @s17_ok
  have S18_ := @s18_w
  have S19_ := @s19_ok
  have S20_ := @s20_ok
  have S21_ := @s21_ok
  have S22_ := @s22_ok
  have S23_ := @s23_ok
  generalize p0 = p0 at S0_ ⊢
  generalize p1 = p1 at S1_ ⊢
  generalize p2 = p2 at S2_ ⊢
  generalize p3 = p3 at S3_ ⊢
  generalize p4 = p4 at S4_ ⊢
  generalize p5 = p5 at S5_ ⊢
  generalize p6 = p6 at S6_ ⊢
  generalize p7 = p7 at S7_ ⊢
  generalize p8 = p8 at S8_ ⊢
  generalize p9 = p9 at S9_ ⊢
  generalize p10 = p10 at S10_ ⊢
  generalize p11 = p11 at S11_ ⊢
  generalize p12 = p12 at S12_ ⊢
  generalize p13 = p13 at S13_ ⊢
  generalize p14 = p14 at S14_ ⊢
  generalize p15 = p15 at S15_ ⊢
  generalize p16 = p16 at S16_ ⊢
  generalize p17 = p17 at S17_ ⊢
  generalize p18 = p18 at S18_ ⊢
  generalize p19 = p19 at S19_ ⊢
  generalize p20 = p20 at S20_ ⊢
  generalize p21 = p21 at S21_ ⊢
  generalize p22 = p22 at S22_ ⊢
  generalize p23 = p23 at S23_ ⊢
  show wO (cSeq p0 _ (E14 none none none none none none none none none none none none none none) st) _ _ _ _
  rw [seq_nx' S0_, seq_nx' (S1_ _ _ _ _ _ _ _ _ _ _ _ _ _ (gl _ _)), seq_nx' (S2_ _ _ _ _ _ _ _ _ _ _ _ _ _ _ _), seq_nx' (S3_ _ _ _ _ _ _ _ _ _ _ _ _ _ _ (by decide) (gl _ _)), seq_nx' (S4_ _ _ _ _ _ _ _ _ _ _ _ _ _ _ (by decide) (gl _ _))]
  rw [seq_nx' (S5_ _ _ _ _ _ _ _ _ _ _ _ _ _ _ (by decide) (gl _ _)), sl]
  obtain ⟨A, hA⟩ : ∃ A : Sto, A = st ++ [MO.lst (f0.map PV.str)] ++ [.lst ((f0 ++ f1).map PV.str)] ++ [.lst ((f0 ++ f1 ++ f2).map PV.str)] := ⟨_, rfl⟩
  rw [← hA]
  rw [seq_nx' (S6_ _ _ _ _ _ _ _ _ _ _ _ _ _ _ (by decide)), seq_nx' (S7_ _ _ _ _ _ _ _ _ _ _ _ _ _ _ (by decide)), seq_nx' (S8_ _ _ _ _ _ _ _ _ _ _ _ _ _ _ (by decide)), seq_nx' (S9_ _ _ _ _ _ _ _ _ _ _ _ _ _ _ (by decide)), seq_nx' (S10_ _ _ _ _ _ _ _ _ _ _ _ _ _ _ (by decide))]
  have e11 : (A ++ [MO.lst ((f0 ++ f1 ++ f2 ++ f3 ++ [fx]).map PV.str)])[A.length]? = some (.lst (FL.map PV.str)) := gl _ _
  have s11 := S11_ none none none none none none none none none none none none _ e11
  have s11 : p11 (E14 (some (.ref A.length)) (some (.lst (S0 ++ g1.map PV.str ++ g2.map PV.str ++ g3.map PV.str ++ (g4.map PV.str ++ [.lst [.str "a=0"]]) ++ g5.map PV.str))) none none none none none none none none none none none none) (A ++ [MO.lst ((f0 ++ f1 ++ f2 ++ f3 ++ [fx]).map PV.str)]) = _ := s11
  rw [seq_nx' s11]
  obtain ⟨B, hB⟩ : ∃ B : Sto, B = A ++ [MO.lst ((f0 ++ f1 ++ f2 ++ f3 ++ [fx]).map PV.str)] := ⟨_, rfl⟩
  rw [← hB]
  generalize SOME = XS
  rw [seq_nx' (S12_ _ _ _ _ _ _ _ _ _ _ _ _ _ _ _), seq_nx' (S13_ _ _ _ _ _ _ _ _ _ _ _ _ _ _)]
  refine w_cut (M := fun e s2 => (∃ v4, e = E14 (some (.ref A.length)) (some (.lst XS)) (some oneP) (some (.ref B.length)) v4 none none none none none none none none none) ∧ s2 = (B ++ [MO.lst ODD0]).set B.length (.lst (ODD0 ++ vals4.map oddF))) (S14_ _ _ _ _ _ _ _ _ _ _ _ _ _ _ (ll _ _) (gl _ _)) ?_
  rintro e s2 ⟨⟨v4, rfl⟩, hs⟩
  rw [hs, sl]
  clear hs s2
  rw [seq_nx' (S15_ _ _ _ _ _ _ _ _ _ _ _ _ _ _ (gl _ _)), seq_nx' (S16_ _ _ _ _ _ _ _ _ _ _ _ _ _ _ _), seq_nx' (S17_ _ _ _ _ _ _ _ _ _ _ _ _ _ _ _)]
  obtain ⟨D, hD⟩ : ∃ D : Sto, D = B ++ [MO.lst (ODD0 ++ vals4.map oddF)] := ⟨_, rfl⟩
  rw [← hD]
  refine w_cut (M := fun e s2 => (∃ v7, e = E14 (some (.ref A.length)) (some (.lst XS)) (some oneP) (some (.ref B.length)) v4 (some (.lst (W6.map PV.str))) (some (.ref D.length)) v7 none none none none none none) ∧ s2 = (D ++ [MO.lst []]).set D.length (.lst (((List.range 30).map obF).map Ob.pv))) (S18_ _ _ _ _ _ _ _ _ _ _ _ _ _ _ (ll _ _) (gl _ _)) ?_
  rintro e s2 ⟨⟨v7, rfl⟩, hs⟩
  rw [hs, sl]
  clear hs s2
  rw [seq_nx' (S19_ _ _ _ _ _ _ _ _ _ _ _ _ _ (gl _ _)), seq_nx' (S20_ _ _ _ _ _ _ _ _ _ _ _ _ _ _), seq_nx' (S21_ _ _ _ _ _ _ _ _ _ _ _ _ _ _ _), seq_nx' (S22_ _ _ _ _ _ _ _ _ _ _ _ _ _ _ _), S23_]
  show wR (gc st (.bl true) _) _
  have g : gc st (.bl true) (D ++ [MO.lst (((List.range 30).map obF).map Ob.pv)]) = .ok (.bl true) st := by
    rw [hD, hB, hA]
    simp only [List.append_assoc]
    exact gc_keep rfl
  rw [g]
  exact ⟨rfl, rfl⟩
end K61
set_option Elab.async false
set_option linter.all false
set_option maxRecDepth 100000
set_option maxHeartbeats 2000000
namespace K60
open PySem PySem.Spec PyProof.Rows L2 Sim Pg K01 K61
abbrev eB (ns : List Int) (v1 v2 v3 v4 v5 v6 v7 v8 : Option PV) : Lo := [some (scriptP ns), v1, v2, v3, v4, v5, v6, v7, v8]
theorem eqS (a b : List Nat) (s : Sto) : sEq (SV a) (SV b) s = .ok (.bl (decide (a = b))) s := by
  have : flatEq (SV a) (SV b) = some (decide (Z a = Z b)) := by simp [flatEq]
  simp only [sEqn, this]
  show Res.ok (PV.bl (decide (Z a = Z b))) s = _
  congr 2
  rw [decide_eq_decide]
  exact ⟨fun e => congrArg TL.tl e, fun e => by rw [e]⟩
def inB : MS := (cSeq (cSet (.one 7) (mApp (fnN 2 f__law_bent_4) (mCons (mVar 2) (mCons (mVar 5) mNil))))
  (cSeq (cSet (.one 8) (mApp (fnN 1 f__law_read) (mCons (mVar 7) mNil)))
  (cSeq (cIf (bAnd (bVal (mBin (sIsn false) (mVar 8) (mC .non))) (bVal (mBin sEq (mVar 7) (mVar 5))))
  (cRet (mC (.bl false)))
  cNil)
  (cIf (bVal (mBin (sIsn true) (mVar 8) (mC .non)))
  (cIf (bOr (bNot (bVal (mApp (fnN 1 f_is_web) (mCons (mVar 8) mNil)))) (bOr (bVal (mBin sNe (mApp (fnN 1 f_write__N) (mCons (mVar 8) mNil)) (mVar 7))) (bVal (mBin sNe (mApp (fnN 1 f__law_text) (mCons (mVar 8) mNil)) (mVar 7)))))
  (cRet (mC (.bl false)))
  cNil)
  cNil))))
theorem in_w (ns : List Int) {w : Web} (h : w.Ok) {L : Nat} {v1 v3 v6 v7 v8 : Option PV} {s : Sto} (dr : Dr L s) {R : PV → Sto → Prop} {B C : Lo → Sto → Prop} : wO (inB (eB ns v1 (some (.ref L)) v3 (some w.pv) (some (SV (text2 w.ns w.os))) v6 v7 v8) s) (fun e s2 => (∃ v7 v8, e = eB ns v1 (some (.ref L)) v3 (some w.pv) (some (SV (text2 w.ns w.os))) v6 v7 v8) ∧ Dr L s2) R B C := by
  have ha := asc_text h
  have hl := text_3000 (ns_of h) (oss_of h) h.o30
  have hrd := rd_of h ha
  generalize text2 w.ns w.os = t at ha hl hrd ⊢
  unfold inB
  refine w_cut (M := fun e s2 => ∃ b, e = eB ns v1 (some (.ref L)) v3 (some w.pv) (some (SV t)) v6 (some (SV b)) v8 ∧ Asc b ∧ b.length ≤ 100000 ∧ Dr L s2) ?_ ?_
  · simp_all_arith! [Sim.wR_ok]
    refine (bent_w ha hl dr).imp ?_
    rintro v s2 ⟨b, rfl, b1, b2, u⟩
    exact ⟨b, rfl, b1, b2, u.dr dr.lt⟩
  rintro e s2 ⟨b, rfl, b1, b2, dr2⟩
  have lr := law_read_ok b1 (by omega) s2
  refine w_cut (M := fun e s3 => e = eB ns v1 (some (.ref L)) v3 (some w.pv) (some (SV t)) v6 (some (SV b)) (some (if rdP b then webX b else .non)) ∧ s3 = s2) ?_ ?_
  · simp_all_arith! [lr]
    try exact ⟨trivial, trivial⟩
  rintro e s3 ⟨rfl, hs⟩
  rw [hs]
  clear hs s3
  cases hr : rdP b with
  | true =>
    obtain ⟨w', ew, hw', et⟩ := rd_web hr
    rw [if_pos rfl, ew]
    have n0 : sIsn false w'.pv .non s2 = .ok (.bl false) s2 := rfl
    have n1 : sIsn true w'.pv .non s2 = .ok (.bl true) s2 := rfl
    have iw := is_web_ok hw' s2
    have wr := write_ok hw' s2
    have lt := law_text_ok hw' s2
    rw [et] at wr lt
    have ne : sNe (SV b) (SV b) s2 = .ok (.bl false) s2 := by
      have : flatEq (SV b) (SV b) = some true := by simp [flatEq]
      simp only [sEqn, this]
      rfl
    simp_all_arith! [n0, n1, iw, wr, lt, ne]
    exact ⟨⟨_, _, rfl⟩, dr2⟩
  | false =>
    rw [if_neg (by decide)]
    have n0 : sIsn false .non .non s2 = .ok (.bl true) s2 := rfl
    have n1 : sIsn true .non .non s2 = .ok (.bl false) s2 := rfl
    have ne : sEq (SV b) (SV t) s2 = .ok (.bl false) s2 := by
      rw [eqS, decide_eq_false]
      intro e
      rw [e, hrd] at hr
      cases hr
    simp_all_arith! [n0, n1, ne]
    exact ⟨⟨_, _, rfl⟩, dr2⟩
def midB : MS := (cSeq (cSet (.one 4) (mApp (fnN 2 f__law_web_2) (mCons (mVar 2) (mCons (mC (.int 14)) mNil))))
  (cSeq (cSet (.one 5) (mApp (fnN 1 f__law_text) (mCons (mVar 4) mNil)))
  (cSeq (cIf (bOr (bVal (mBin sNe (mApp (fnN 1 f_write__N) (mCons (mVar 4) mNil)) (mVar 5))) (bVal (mBin sNe (mApp (fnN 1 f_read__N) (mCons (mVar 5) mNil)) (mVar 4))))
  (cRet (mC (.bl false)))
  cNil)
  (cFor (mRange1 (mC (.int 12))) (.one 6) inB))))
theorem mid_w (ns : List Int) {L : Nat} {v1 v3 v4 v5 v6 v7 v8 : Option PV} {s : Sto} (dr : Dr L s) {R : PV → Sto → Prop} {B C : Lo → Sto → Prop} : wO (midB (eB ns v1 (some (.ref L)) v3 v4 v5 v6 v7 v8) s) (fun e s2 => (∃ v4 v5 v6 v7 v8, e = eB ns v1 (some (.ref L)) v3 v4 v5 v6 v7 v8) ∧ Dr L s2) R B C := by
  have IN := @in_w ns
  unfold midB
  generalize inB = I at IN ⊢
  refine w_cut (M := fun e s2 => ∃ w : Web, w.Ok ∧ e = eB ns v1 (some (.ref L)) v3 (some w.pv) v5 v6 v7 v8 ∧ Dr L s2) ?_ ?_
  · simp_all_arith! [Sim.wR_ok]
    refine (web2_w (most := 14) dr (by decide) (by decide)).imp ?_
    rintro q s2 ⟨w, j, rfl, hw, _, hj, hnm, u⟩
    exact ⟨w, hw, rfl, u.dr dr.lt⟩
  rintro e s2 ⟨w, h, rfl, dr2⟩
  obtain ⟨a, b, c, d, f⟩ := same_text h
  refine w_cut (M := fun e s3 => e = eB ns v1 (some (.ref L)) v3 (some w.pv) (some (SV (text2 w.ns w.os))) v6 v7 v8 ∧ Dr L s3) ?_ ?_
  · simp_all_arith! [b]
    exact ⟨trivial, dr2⟩
  rintro e s3 ⟨rfl, dr3⟩
  refine w_cut (M := fun e s4 => e = eB ns v1 (some (.ref L)) v3 (some w.pv) (some (SV (text2 w.ns w.os))) v6 v7 v8 ∧ Dr L s4) ?_ ?_
  · simp_all_arith! [a, c, d, f]
    exact ⟨trivial, dr3⟩
  rintro e s4 ⟨rfl, dr4⟩
  rw [wO_for]
  show wR (Res.ok (rangeP 0 12) s4) _
  rw [wR_ok]
  refine forget (P := fun _ => True) (I := fun e s => (∃ v6 v7 v8, e = eB ns v1 (some (.ref L)) v3 (some w.pv) (some (SV (text2 w.ns w.os))) v6 v7 v8) ∧ Dr L s) ?_ (fun _ _ => trivial) ⟨⟨v6, v7, v8, rfl⟩, dr4⟩ ?_
  · rintro x e s ⟨⟩ ⟨⟨v6, v7, v8, rfl⟩, dr⟩
    refine ⟨eB ns v1 (some (.ref L)) v3 (some w.pv) (some (SV (text2 w.ns w.os))) (some x) v7 v8, rfl, ?_⟩
    refine (IN h dr).imp ?_ (fun _ _ h => h)
    rintro e s ⟨⟨v7, v8, rfl⟩, dr⟩
    exact ⟨⟨_, v7, v8, rfl⟩, dr⟩
  · rintro e s ⟨⟨v6, v7, v8, rfl⟩, dr⟩
    exact ⟨⟨_, _, _, _, _, rfl⟩, dr⟩
theorem law_is : m_law_25 = cSeq (cFor (mRange1 (mApp sMax2 (mCons (mApp sMin2 (mCons (mApp sLen (mCons (mVar 0) mNil)) (mCons (mC (.int 5)) mNil))) (mCons (mC (.int 1)) mNil)))) (.one 1)
  (cSeq (cSet (.one 2) (mApp sLstM (mCons (mApp (fnN 2 f__law_cell) (mCons (mVar 0) (mCons (mVar 1) mNil))) mNil)))
  (cFor (mRange1 (mC (.int 2))) (.one 3) midB)))
  (cRet (mApp (fnN 0 f__law_fixed_good) mNil)) := by
  delta Pg.m_law_25 midB inB
  rfl
theorem good : ∀ ns : List Int, ns.length ≤ 63 → ∃ st, f_law_25 [scriptP ns] [] = .ok (.bl true) st := by
  intro ns _
  suffices h : wR (f_law_25 [scriptP ns] []) (fun v _ => v = .bl true) by
    obtain ⟨v, s, e, rfl⟩ := h.get
    exact ⟨s, e⟩
  have MW := @mid_w ns
  unfold f_law_25
  rw [law_is]
  generalize midB = Mb at MW ⊢
  refine w_defM ?_
  refine w_cut (M := fun e s => ∃ v1 v2 v3 v4 v5 v6 v7 v8, e = eB ns v1 v2 v3 v4 v5 v6 v7 v8) ?_ ?_
  · obtain ⟨m, hm, em⟩ := turns ns (eB ns none none none none none none none none) [] rfl
    rw [wO_for]
    show wR (mRange1 _ (eB ns none none none none none none none none) []) _
    rw [em, wR_ok]
    refine forget (P := Small 5) (I := fun e s => ∃ v1 v2 v3 v4 v5 v6 v7 v8, e = eB ns v1 v2 v3 v4 v5 v6 v7 v8) ?_ (fun x hx => ?_) ⟨none, none, none, none, none, none, none, none, rfl⟩ (fun e s h => h)
    · rintro x e s ⟨z, rfl, z0, z1⟩ ⟨v1, v2, v3, v4, v5, v6, v7, v8, rfl⟩
      refine ⟨eB ns (some (.int z)) v2 v3 v4 v5 v6 v7 v8, rfl, ?_⟩
      obtain ⟨c, hc⟩ := cell_sp ns z z0 (by omega) s
      have dr0 := own_new c s
      obtain ⟨L, hL⟩ : ∃ L, s.length = L := ⟨_, rfl⟩
      rw [hL] at dr0
      refine w_cut (M := fun e s2 => e = eB ns (some (.int z)) (some (.ref L)) v3 v4 v5 v6 v7 v8 ∧ Dr L s2) ?_ ?_
      · simp_all_arith! [hc, lstM1, hL]
        exact ⟨trivial, dr0⟩
      rintro e s2 ⟨rfl, dr2⟩
      rw [wO_for]
      show wR (Res.ok (rangeP 0 2) s2) _
      rw [wR_ok]
      refine forget (P := fun _ => True) (I := fun e s => (∃ v3 v4 v5 v6 v7 v8, e = eB ns (some (.int z)) (some (.ref L)) v3 v4 v5 v6 v7 v8) ∧ Dr L s) ?_ (fun _ _ => trivial) ⟨⟨v3, v4, v5, v6, v7, v8, rfl⟩, dr2⟩ ?_
      · rintro x e s ⟨⟩ ⟨⟨v3, v4, v5, v6, v7, v8, rfl⟩, dr⟩
        refine ⟨eB ns (some (.int z)) (some (.ref L)) (some x) v4 v5 v6 v7 v8, rfl, ?_⟩
        refine (MW dr).imp ?_ (fun _ _ h => h)
        rintro e s ⟨⟨v4, v5, v6, v7, v8, rfl⟩, dr⟩
        exact ⟨⟨_, v4, v5, v6, v7, v8, rfl⟩, dr⟩
      · rintro e s ⟨⟨v3, v4, v5, v6, v7, v8, rfl⟩, dr⟩
        exact ⟨_, _, _, _, _, _, _, _, rfl⟩
    · obtain ⟨z, rfl, z0, z1⟩ := range_small m x hx
      exact ⟨z, rfl, z0, by omega⟩
  · rintro e s ⟨v1, v2, v3, v4, v5, v6, v7, v8, rfl⟩
    have fin : ∀ s, gc [] (.bl true) s = .ok (.bl true) [] := fun s => by
      have := gc_fit (st := []) (s := s) (x := .bl true) rfl (Nat.zero_le _) (fun i a h => absurd h (Nat.not_lt_zero _))
      simpa using this
    have fg := fixed_good s
    simp_all_arith! [fg, fin]
end K60
set_option Elab.async false
set_option linter.all false
set_option maxRecDepth 100000
open PySem PySem.W PyProof.Rows
set_option maxHeartbeats 0 in
theorem PySem.Challenge.cw_openfrozen_k60_webs_as_texts_holds : PySem.Challenge.rw_openfrozen_k60_webs_as_texts.Holds := by
  w_on; o_law; k_head; (case hw => w_witness2)
  k_fill
  refine Sim.law_endX (l := PySem.Challenge.rw_openfrozen_k60_webs_as_texts) (n := 63) (k := 10) (x := "script") (F := Pg.f_law_25) rfl (by decide) rfl ⟨rfl, by decide, by decide⟩ (fun w h Y => PySem.W.kIn_of Y) ?F K60.good
  case F =>
    intro w mg fa h KX G hmg
    refine' K60.all_mk KX G hmg ?a12 ?l12 ?c12 ?k12 ?a13 ?l13 ?c13 ?k13 ?a14 ?l14 ?c14 ?k14 ?a15 ?l15 ?c15 ?k15 ?a16 ?l16 ?c16 ?k16 ?a17 ?l17 ?c17 ?k17 ?a18 ?l18 ?c18 ?k18 ?a19 ?l19 ?c19 ?k19 ?a20 ?l20 ?c20 ?k20 ?a22 ?l22 ?c22 ?k22 ?a23 ?l23 ?c23 ?k23 ?a26 ?l26 ?c26 ?k26 ?a27 ?l27 ?c27 ?k27 ?a28 ?l28 ?c28 ?k28 ?a29 ?l29 ?c29 ?k29 ?a30 ?l30 ?c30 ?k30 ?a31 ?l31 ?c31 ?k31 ?a32 ?l32 ?c32 ?k32 ?a33 ?l33 ?c33 ?k33 ?a34 ?l34 ?c34 ?k34 ?a36 ?l36 ?c36 ?k36 ?a37 ?l37 ?c37 ?k37 ?a38 ?l38 ?c38 ?k38 ?a39 ?l39 ?c39 ?k39 ?a40 ?l40 ?c40 ?k40 ?a43 ?l43 ?c43 ?k43 ?a44 ?l44 ?c44 ?k44 ?a45 ?l45 ?c45 ?k45 ?a46 ?l46 ?c46 ?k46 ?a47 ?l47 ?c47 ?k47 ?a48 ?l48 ?c48 ?k48 ?a49 ?l49 ?c49 ?k49 ?z_all ?z_bool ?z_int ?z_isinstance ?z_len ?z_max ?z_min ?z_range ?z_set ?z_sorted ?z_str ?z_tuple ?n5 ?o5 ?n6 ?n7 ?n8 ?n9 ?n10 ?n11 ?n25 ?ga_InvalidWeb ?gx_InvalidWeb ?gk_InvalidWeb ?gb_InvalidWeb ?gt_InvalidWeb ?ga_InvalidText ?gx_InvalidText ?gk_InvalidText ?gb_InvalidText ?gt_InvalidText ?x1_InvalidWeb ?x2_InvalidWeb ?x4_InvalidWeb ?x5_InvalidWeb ?x6_InvalidWeb ?x7_InvalidWeb ?x8_InvalidWeb ?x1_InvalidText ?x2_InvalidText ?x4_InvalidText ?x5_InvalidText ?x6_InvalidText ?x7_InvalidText ?x8_InvalidText ?wd_InvalidText ?w_InvalidText_InvalidText ?wd_InvalidWeb ?w_InvalidWeb_InvalidWeb
    (case a12 => k_is)
    (case l12 => k_is)
    (case c12 => k_is)
    (case k12 => k_is)
    (case a13 => k_is)
    (case l13 => k_is)
    (case c13 => k_is)
    (case k13 => k_is)
    (case a14 => k_is)
    (case l14 => k_is)
    (case c14 => k_is)
    (case k14 => k_is)
    (case a15 => k_is)
    (case l15 => k_is)
    (case c15 => k_is)
    (case k15 => k_is)
    (case a16 => k_is)
    (case l16 => k_is)
    (case c16 => k_is)
    (case k16 => k_is)
    (case a17 => k_is)
    (case l17 => k_is)
    (case c17 => k_is)
    (case k17 => k_is)
    (case a18 => k_is)
    (case l18 => k_is)
    (case c18 => k_is)
    (case k18 => k_is)
    (case a19 => k_is)
    (case l19 => k_is)
    (case c19 => k_is)
    (case k19 => k_is)
    (case a20 => k_is)
    (case l20 => k_is)
    (case c20 => k_is)
    (case k20 => k_is)
    (case a22 => k_is)
    (case l22 => k_is)
    (case c22 => k_is)
    (case k22 => k_is)
    (case a23 => k_is)
    (case l23 => k_is)
    (case c23 => k_is)
    (case k23 => k_is)
    (case a26 => k_is)
    (case l26 => k_is)
    (case c26 => k_is)
    (case k26 => k_is)
    (case a27 => k_is)
    (case l27 => k_is)
    (case c27 => k_is)
    (case k27 => k_is)
    (case a28 => k_is)
    (case l28 => k_is)
    (case c28 => k_is)
    (case k28 => k_is)
    (case a29 => k_is)
    (case l29 => k_is)
    (case c29 => k_is)
    (case k29 => k_is)
    (case a30 => k_is)
    (case l30 => k_is)
    (case c30 => k_is)
    (case k30 => k_is)
    (case a31 => k_is)
    (case l31 => k_is)
    (case c31 => k_is)
    (case k31 => k_is)
    (case a32 => k_is)
    (case l32 => k_is)
    (case c32 => k_is)
    (case k32 => k_is)
    (case a33 => k_is)
    (case l33 => k_is)
    (case c33 => k_is)
    (case k33 => k_is)
    (case a34 => k_is)
    (case l34 => k_is)
    (case c34 => k_is)
    (case k34 => k_is)
    (case a36 => k_is)
    (case l36 => k_is)
    (case c36 => k_is)
    (case k36 => k_is)
    (case a37 => k_is)
    (case l37 => k_is)
    (case c37 => k_is)
    (case k37 => k_is)
    (case a38 => k_is)
    (case l38 => k_is)
    (case c38 => k_is)
    (case k38 => k_is)
    (case a39 => k_is)
    (case l39 => k_is)
    (case c39 => k_is)
    (case k39 => k_is)
    (case a40 => k_is)
    (case l40 => k_is)
    (case c40 => k_is)
    (case k40 => k_is)
    (case a43 => k_is)
    (case l43 => k_is)
    (case c43 => k_is)
    (case k43 => k_is)
    (case a44 => k_is)
    (case l44 => k_is)
    (case c44 => k_is)
    (case k44 => k_is)
    (case a45 => k_is)
    (case l45 => k_is)
    (case c45 => k_is)
    (case k45 => k_is)
    (case a46 => k_is)
    (case l46 => k_is)
    (case c46 => k_is)
    (case k46 => k_is)
    (case a47 => k_is)
    (case l47 => k_is)
    (case c47 => k_is)
    (case k47 => k_is)
    (case a48 => k_is)
    (case l48 => k_is)
    (case c48 => k_is)
    (case k48 => k_is)
    (case a49 => k_is)
    (case l49 => k_is)
    (case c49 => k_is)
    (case k49 => k_is)
    (case z_all => k_is)
    (case z_bool => k_is)
    (case z_int => k_is)
    (case z_isinstance => k_is)
    (case z_len => k_is)
    (case z_max => k_is)
    (case z_min => k_is)
    (case z_range => k_is)
    (case z_set => k_is)
    (case z_sorted => k_is)
    (case z_str => k_is)
    (case z_tuple => k_is)
    (case n5 => k_is)
    (case o5 => k_is)
    (case n6 => k_is)
    (case n7 => k_is)
    (case n8 => k_is)
    (case n9 => k_is)
    (case n10 => k_is)
    (case n11 => k_is)
    (case n25 => k_is)
    (case ga_InvalidWeb => k_is)
    (case gx_InvalidWeb => k_exc)
    (case gk_InvalidWeb => k_is)
    (case gb_InvalidWeb => k_is)
    (case gt_InvalidWeb => k_is)
    (case ga_InvalidText => k_is)
    (case gx_InvalidText => k_exc)
    (case gk_InvalidText => k_is)
    (case gb_InvalidText => k_is)
    (case gt_InvalidText => k_is)
    (case x1_InvalidWeb => k_is)
    (case x2_InvalidWeb => k_is)
    (case x4_InvalidWeb => k_is)
    (case x5_InvalidWeb => k_is)
    (case x6_InvalidWeb => k_is)
    (case x7_InvalidWeb => k_is)
    (case x8_InvalidWeb => k_is)
    (case x1_InvalidText => k_is)
    (case x2_InvalidText => k_is)
    (case x4_InvalidText => k_is)
    (case x5_InvalidText => k_is)
    (case x6_InvalidText => k_is)
    (case x7_InvalidText => k_is)
    (case x8_InvalidText => k_is)
    (case wd_InvalidText => k_is)
    (case w_InvalidText_InvalidText => k_is)
    (case wd_InvalidWeb => k_is)
    (case w_InvalidWeb_InvalidWeb => k_is)
