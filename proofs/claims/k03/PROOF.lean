import PyProof.Rows.All
import Wide.All
import OpenK.AllK
import Wide.FinOn
import HandS.ForMost
import HandS.IsInst
import HandS.Flow
import HandS.TupAny
import HandS.TupMul
import HandS.Deep
import HandS.Wide
import KE.KDictPairs
import HandS.Lambda
import PyProof.P3In
import KE.KEqDict
import PyProof.EqKinds
import HandS.Style
import HandS.Zip
import HandS.Set
import HandS.Strs
import HandS.SetFor
import HandS.TupSets
import HandS.SortInts
import PyProof.Rows.SortShellAny
import PyProof.Rows.ReprShort
import HandS.DictComp
import HandS.Exc
import HandS.ExcOwn
import HandS.ExcIs
import HandS.ExcValue
import HandS.WordsExc
import HandS.Nested
import KE.KNest
import HandS.SetKeys
import HandS.Small
import HandS.More
import PySem.Challenge.RW_openfrozen_k03_paths_and_what_they_lead
set_option Elab.async false
set_option linter.all false
set_option maxRecDepth 100000
set_option maxHeartbeats 4000000
/-! tuples whose very object is known: it has no dict of its own -/
namespace Sim
open PySem PySem.Spec PyProof.Rows L2
def tupO (its : List Value) : Obj := { cls := .type "tuple", data := .seq its.toArray }
/-- a tuple without a dict of its own -/
def SqN (K : PySem.W.Frag) (H : Hp) (a : Addr) (xs : List V) : Prop :=
  (∃ o : Obj, o.dict = none ∧ H a = some (.frz o (.tup xs))) ∨
    ∃ (o : Obj) (its : Array Value) (n : Nat), o.dict = none ∧ (K.lookup a = some o ∧ o.cls = .type "tuple" ∧ o.data = .seq its n ∧ its.size ≤ sizeLine ∧ Vals xs its.toList)
theorem SqN.t {K : PySem.W.Frag} {H : Hp} {a : Addr} {xs : List V} (h : SqN K H a xs) : SqT K H a xs := by
  rcases h with ⟨o, _, e⟩ | ⟨o, its, n, _, e⟩
  · exact .inl (.inr ⟨o, e⟩)
  · exact .inr ⟨o, its, n, e⟩
/-- what is wanted of a new tuple -/
def NewT (xs : List V) (H : Hp) (Q : VK) : Prop := ∀ (p : Addr) (o : Obj), o.dict = none → H p = none → Q (.ref p) (upd H p (.frz o (.tup xs)))
section
variable {X : Cx} {pins : List (Addr × Obj)} {σ : L2.St} {H : Hp} {s : Shared} {xs : List V} {its : List Value} {a : Addr}
theorem inv_tup (I : Inv X pins σ H s) (r : Vals xs its) (z : xs.length ≤ sizeLine) : Inv X pins σ (upd H s.heap.objs.size (.frz (tupO its) (.tup xs))) { s with heap := s.heap.push (tupO its) } :=
  I.laid (t' := s.toks) (fun _ _ q => Heap.get?_push_of_some _ q) (Nat.le_refl _) ⟨Heap.get?_push_size _ rfl, z, its, r, _, Heap.get?_push_size _ rfl, rfl, _, rfl⟩
theorem ep_tup {Q : VK} (I : Inv X pins σ H s) (r : Vals xs its) (z : xs.length ≤ sizeLine) (q : NewT xs H Q) : EP X pins σ Q (.ref s.heap.objs.size) { s with heap := s.heap.push (tupO its) } :=
  ⟨.ref s.heap.objs.size, _, inv_tup I r z, rfl, q _ _ rfl (I.hok.fresh (Nat.le_refl _))⟩
/-- the very object -/
theorem seqN_at (I : Inv X pins σ H s) (h : SqN X.K H a xs) : ∃ (o : Obj) (its : List Value) (n : Nat), s.heap.get? a = some o ∧ o.cls = .type "tuple" ∧ o.dict = none ∧ o.data = .seq its.toArray n ∧ Vals xs its ∧ xs.length ≤ sizeLine := by
  rcases h with ⟨o, hd, e⟩ | ⟨o, its, n, hd, hk, hc, hs, hz, r⟩
  · obtain ⟨e1, z, its, r, o', e2, hc, n, hs⟩ := I.hok a _ e
    rw [e1] at e2; cases e2
    exact ⟨o, its, n, e1, hc, hd, hs, r, z⟩
  · refine ⟨o, its.toList, n, I.kIn a o hk, hc, hd, by simpa using hs, r, ?_⟩
    have := r.length
    simp only [Array.length_toList] at this
    omega
end
/-! the rules that make tuples -/
section
variable {X : Cx} {es : List Expr} {t : TA} {pos : Pos}
def tTupN (t : TA) : TE := fun σ H Q => t σ H fun xs H1 => xs.length ≤ sizeLine ∧ NewT xs H1 Q
theorem pe_tupN {k : Nat} (h : PA X es t) : PE X (.Tuple es k pos) (tTupN t) :=
  ⟨fun pp s σ H Q I q0 => wpAny_Tuple_spliced (thn (h.run pos pp s σ H _ I q0) fun us s1 ⟨ys, H1, I1, r, z, q⟩ => ⟨by rw [← r.length]; exact z, ep_tup I1 r z q⟩)⟩
theorem call_tupN : CallR X (.type "tuple") (fun xs H Q => ∃ p ys, xs = [.ref p] ∧ ((SqL X.K H p ys ∧ NewT ys H Q) ∨ (SqT X.K H p ys ∧ Q (.ref p) H))) := by
  intro pp s σ H xs us Q I r0 h0
  obtain ⟨a, ys, rfl, h0⟩ := h0
  obtain ⟨u, rfl, ru⟩ := vals1 r0
  cases ru
  rcases h0 with ⟨hl, q⟩ | ⟨ht, q⟩
  · obtain ⟨its, r1, pl, z⟩ := I.list hl
    have le := r1.length
    exact call_tuple_list pl.isList (fun h' kp => ep_tup (I.kept (t' := s.toks) kp) r1 z q) (by simp only [List.size_toArray] <;> omega)
  · obtain ⟨its, _, pt, _⟩ := I.tuple ht
    exact call_tuple_same pt ⟨.ref a, H, I, rfl, q⟩
def rCatN (K : PySem.W.Frag) : R2 := fun x y H Q => ∃ a b xs ys, x = .ref a ∧ y = .ref b ∧ SqT K H a xs ∧ SqT K H b ys ∧ xs.length + ys.length ≤ sizeLine ∧
  (xs = [] → Q (.ref b) H) ∧ (xs ≠ [] → ys = [] → Q (.ref a) H) ∧ (xs ≠ [] → ys ≠ [] → NewT (xs ++ ys) H Q)
theorem op_catN : OpR X (binaryOp .Add) (rCatN X.K) := by
  intro pp s σ H x y v u Q I rx ry h0
  obtain ⟨a, b, xs, ys, rfl, rfl, ha, hb, hz, q0, q1, q2⟩ := h0
  cases rx; cases ry
  obtain ⟨ia, ra, pa, _⟩ := I.tuple ha
  obtain ⟨ib, rb, pb, _⟩ := I.tuple hb
  by_cases e : xs = []
  · subst e
    cases ra
    exact cat_tup0 pa pb ⟨.ref b, H, I, rfl, q0 rfl⟩
  · refine HT.cat_tup pa pb (fun z => e (ra.nil_iff.mp z)) (fun z => ⟨.ref a, H, I, rfl, q1 e (rb.nil_iff.mp z)⟩) (fun z => ?_) (by rw [← ra.length, ← rb.length]; exact hz)
    exact ep_tup I (ra.append rb) (by rw [List.length_append]; exact hz) (q2 e fun w => z (rb.nil_iff.mpr w))
def rSlN (K : PySem.W.Frag) : V → Option Int → Option Int → Hp → VK → Prop := fun x lo hi H Q => ∃ a xs, x = .ref a ∧ SqT K H a xs ∧
  (HT.sIx xs.length 0 lo = 0 ∧ HT.sIx xs.length xs.length hi = xs.length → Q (.ref a) H) ∧ (¬ (HT.sIx xs.length 0 lo = 0 ∧ HT.sIx xs.length xs.length hi = xs.length) → NewT (cutV xs lo hi) H Q)
theorem sl_tupN : SlR X (rSlN X.K) := by
  intro pp s σ H x v vl vu lo hi sl Q I rx hs pl pu h0
  obtain ⟨a, xs, rfl, hx, q1, q2⟩ := h0
  cases rx
  obtain ⟨its, r, ht, hz⟩ := I.tuple hx
  have le : its.toArray.size = xs.length := by rw [List.size_toArray]; exact r.length.symm
  refine ⟨"tuple", _, PyProof.Rows.slot_tuple_getitem.lookup, ht.typeIs, ?_⟩
  by_cases w : HT.sIx xs.length 0 lo = 0 ∧ HT.sIx xs.length xs.length hi = xs.length
  · exact getItem_tuple_whole ht hs pl pu (by rw [le]; exact w) ⟨.ref a, H, I, rfl, q1 w⟩
  · refine HT.getItem_tuple_cut ht hs pl pu (by rw [le]; exact w) ?_ (by rw [le]; exact hz)
    rw [le]
    exact ep_tup I ((r.drop (HT.sIx xs.length 0 lo)).take (HT.sIx xs.length xs.length hi - HT.sIx xs.length 0 lo)) (Nat.le_trans (cutV_length xs lo hi) hz) (q2 w)
end
section
variable {X : Cx}
def rRepN (K : PySem.W.Frag) : R2 := fun x y H Q => ∃ l k xs, x = .ref l ∧ y = .int k ∧ SqT K H l xs ∧ xs ≠ [] ∧ 2 ≤ k ∧ k ≤ 1000 ∧ xs.length ≤ 1000 ∧ NewT (List.replicate k.toNat xs).flatten H Q
theorem op_repN : OpR X (binaryOp .Mult) (rRepN X.K) := by
  intro pp s σ H x y v u Q I rx ry h0
  obtain ⟨a, m, xs, rfl, rfl, ht, ne, m1, m2, hz, q⟩ := h0
  cases rx
  obtain ⟨tk, rfl⟩ := ry
  obtain ⟨its, r, ⟨⟨cls, od, dat, slo⟩, ho, hc, nn, hd⟩, _⟩ := I.tuple ht
  simp only at hc hd
  subst hc hd
  have le : its.length = xs.length := r.length.symm
  have pos : 0 < its.length := by
    rw [le]
    cases xs with
    | nil => exact absurd rfl ne
    | cons _ _ => simp
  have em : its.toArray.isEmpty = false := by
    cases its with
    | nil => simp at pos
    | cons _ _ => rfl
  have sz : its.toArray.size = xs.length := by rw [List.size_toArray, le]
  have big : ((its.toArray.size : Nat) : Int) * m ≤ 1000000 := by
    have z : ((xs.length : Nat) : Int) * m ≤ 1000 * m := Int.mul_le_mul_of_nonneg_right (by omega) (by omega)
    rw [sz]; omega
  have bigN : m.toNat * xs.length ≤ 1000 * 1000 := Nat.mul_le_mul (by omega) hz
  have room : (List.replicate m.toNat its).flatten.length ≤ sizeLine := by
    rw [PyProof.Rows.lm_len_rep_flat, le, sizeLine_eq]; omega
  have d0 : (decide (m < -(2 ^ 63)) || decide (m ≥ 2 ^ 63)) = false := by
    rw [decide_eq_false (show ¬ m < -(2 ^ 63) by omega), decide_eq_false (show ¬ m ≥ 2 ^ 63 by omega)] <;> rfl
  have d1 : (its.toArray.isEmpty || m == 1) = false := by
    rw [em, Bool.false_or]; exact beq_eq_false_iff_ne.mpr (by omega)
  have d2 : (decide (m ≤ 0) || its.toArray.isEmpty) = false := by
    rw [em, Bool.or_false]; exact decide_eq_false (by omega)
  have d4 : Builtin.Tuple.tupleTooMany (((its.toArray.size : Nat) : Int) * m) = false := by
    unfold Builtin.Tuple.tupleTooMany
    rw [sizeLine_eq]; exact decide_eq_false (by omega)
  have tyT : s.TypeIs (.ref a) "tuple" := ⟨_, ho, rfl⟩
  refine wpAny_binaryOp_repeat_ref (T := "tuple") (U := "int") (by decide) tyT (fun s' => typeIs_int s' m tk) noFill_tuple_mul PySem.F.fills_int_mul PySem.F.slot_int_rmul repeat_tuple PySem.F.slot_int_index.lookup
    (call_meets PySem.F.slot_int_rmul (typeIs_int s m tk) PySem.F.entry_int_rmul (PySem.F.args_int_rmul_2 _ _) (int_rmul_tuple m tk a its.toArray nn od slo) ⟨ho, rfl, tyT, call_meets PySem.F.slot_tuple_mul tyT PySem.F.entry_tuple_mul (PySem.F.args_tuple_mul_2 _ _) (tuple_mulW a its.toArray nn od slo m tk d0 d1 d2 (by omega) d4 (by rw [size_rep, List.size_toArray]; exact room)) ⟨ho, ?_⟩⟩)
  rw [size_rep]
  exact ep_tup I (r.rep m.toNat) (by rw [PyProof.Rows.lm_len_rep_flat, sizeLine_eq]; omega) q
end
/-! dict(t) of a tuple of pairs -/
theorem choose_list {α β : Type} (P : Nat → α → β → Prop) : ∀ (l : List α), (∀ (j : Nat) (q : α), l[j]? = some q → ∃ u, P j q u) → ∃ vs : List β, vs.length = l.length ∧ ∀ (j : Nat) (q : α), l[j]? = some q → ∃ u, vs[j]? = some u ∧ P j q u
  | [], _ => ⟨[], rfl, fun j q e => by simp at e⟩
  | x :: l, h => by
    obtain ⟨u, hu⟩ := h 0 x rfl
    obtain ⟨vs, vl, vh⟩ := choose_list (fun j => P (j + 1)) l fun j q e => h (j + 1) q (by simpa using e)
    refine ⟨u :: vs, by simp [vl], fun j q e => ?_⟩
    cases j with
    | zero => simp only [List.getElem?_cons_zero, Option.some.injEq] at e; subst e; exact ⟨u, rfl, hu⟩
    | succ j => simpa using vh j q (by simpa using e)
section
variable {X : Cx}
theorem call_dictN (hcalm : X.calm = true) : CallR X (.type "dict") (fun xs H Q => ∃ (a : Addr) (ps : List Addr) (kvs : List (Key × V)), xs = [.ref a] ∧ SqN X.K H a (ps.map V.ref) ∧ Paired (fun p kv => SqT X.K H p [kV kv.1, kv.2]) ps kvs ∧
    ∀ p, H p = none → Q (.ref p) (upd H p (.dK (mergeK [] kvs)))) := by
  intro pp s σ H xs us Q I r0 h0
  obtain ⟨a, ps, kvs, rfl, hq, hp, q⟩ := h0
  obtain ⟨u, rfl, ru⟩ := vals1 r0
  cases ru
  obtain ⟨o, its, n, ho, hc, hd, hs, rv, hz⟩ := seqN_at I hq
  have ei := refs_at rv
  subst ei
  obtain ⟨prs, rel, hl, hpr⟩ := pairs_of I hp
  rw [List.length_map] at hz
  have pick : ∀ (j : Nat) (q : Key × Value), prs[j]? = some q → ∃ z : Value × Value, ∃ b, ps[j]? = some b ∧ z.2 = q.2 ∧ IsTup s.heap b #[z.1, z.2] ∧ keyIs q.1 z.1 = true := fun j q e => by
    obtain ⟨b, u, e1, e2, e3⟩ := hpr j q e
    exact ⟨(u, q.2), b, e1, rfl, e2, e3⟩
  obtain ⟨vs, vl, vh⟩ := choose_list _ prs pick
  have hvl : vs.length = ps.length := vl.trans hl
  have back : ∀ (j : Nat) (k v : Value), vs[j]? = some (k, v) → ∃ q b, prs[j]? = some q ∧ ps[j]? = some b ∧ v = q.2 ∧ IsTup s.heap b #[k, v] ∧ keyIs q.1 k = true := fun j k v e => by
    have lt : j < prs.length := by rw [← vl]; exact (List.getElem?_eq_some_iff.mp e).1
    obtain ⟨z, e1, b, e2, e3, e4, e5⟩ := vh j prs[j] (List.getElem?_eq_getElem lt)
    rw [e] at e1; cases e1
    exact ⟨_, b, List.getElem?_eq_getElem lt, e2, e3, e4, e5⟩
  have plain : PlainSeq "tuple" s.heap a (ps.map Value.ref).toArray := ⟨o, n, ho, hc, hd, hs⟩
  have items : PairItems s.heap (ps.map Value.ref).toArray (fun j => ps.getD j 0) vs := by
    refine ⟨by simp [hvl], fun j k v e => ?_⟩
    obtain ⟨q, b, _, e2, _, e4, _⟩ := back j k v e
    refine ⟨by simp [e2], .inl ?_⟩
    have : ps.getD j 0 = b := by simp [e2]
    show s.heap.IsTuple (ps.getD j 0) #[k, v]
    rw [this]
    exact e4
  refine call_dict_pairs (knd := mixKind X.prog X.w) (kvs := prs) (PairArg.tuple a (ps.map Value.ref).toArray (fun j => ps.getD j 0) vs) (I.ok.hd hcalm) ⟨plain, items⟩ ⟨by rw [hvl, hl], fun j k v e => ?_⟩ (by rw [hvl]; exact hz) fun h' tk hd' kp => ?_
  · obtain ⟨q, b, e1, _, e3, _, e5⟩ := back j k v e
    exact ⟨q.1, by rw [e1, e3], e5⟩
  · have hm : (s.heap.objs.size == sysModules) = false := beq_eq_false_iff_ne.mpr (Nat.ne_of_gt I.big)
    have le : (mergeK [] kvs).length ≤ sizeLine := by
      have := length_mergeK kvs []
      rw [List.length_nil, Nat.zero_add, rel.length, hl] at this
      omega
    exact ⟨.ref s.heap.objs.size, upd H s.heap.objs.size (.dK (mergeK [] kvs)), I.laid (t' := tk) (fun b o e => kp b o (by simp) e) (Nat.le_refl _) ⟨le, hm, merged [] prs, KV.merge rel .nil, hd'⟩, rfl, q _ (I.hok.fresh (Nat.le_refl _))⟩
end
end Sim

set_option Elab.async false
set_option linter.all false
set_option maxRecDepth 100000
set_option maxHeartbeats 4000000
/-! own layer: a def as a plain function over trees of data and a small store of what is still changed -/
namespace Sim
open PySem PySem.Spec PyProof.Rows L2

/-- the tables of code objects that are told, with the name of what is made there -/
class Tb where
  tabs : List (Addr × Str)
/-- the slots of a frame that hold a lambda which it was handed -/
class Lm where
  at_ : Nat → Option Addr
variable [Tb] [Lm]
/-- known, and no table -/
def nt (H : Hp) (a : Addr) : Prop := ∃ o, H a = some o ∧ ∀ ps, o ≠ HO.tbl ps
theorem nt.ne {H : Hp} {a : Addr} (h : nt H a) : H a ≠ none := by
  obtain ⟨o, e, _⟩ := h
  rw [e]
  exact nofun
theorem nt.of {H H' : Hp} {a : Addr} (h : nt H a) (e : H' a = H a) : nt H' a := by
  obtain ⟨o, q, n⟩ := h
  exact ⟨o, e.trans q, n⟩

/-- data as a tree; ref: a list or dict that may still be changed (by its number in the store) -/
inductive PV where
  | non | bl (b : Bool) | int (i : Int) | str (x : Str)
  | tup (xs : List PV) | lst (xs : List PV) | dct (kvs : List (Key × PV))
  | ref (k : Nat) | raw (v : V) | rol (xs : List PV) | wtp (xs : List PV) | err (n : String)
instance : Inhabited PV := ⟨.non⟩

inductive MO where
  | lst (xs : List PV) | dct (kvs : List (Key × PV)) | dead
abbrev Sto := List MO
abbrev Lo := List (Option PV)

/-- the class of a name of the text -/
def clsK (K : PySem.W.Frag) (n : String) : Value := match PySem.W.nsIn K mainGlobals (Str.ofString n) with
  | some (some v) => v
  | _ => .none
/-- an error that was caught, kept at a -/
def ErrO (cls : Value) (a : Addr) : HO := .ext fun h => ∃ (o : Obj) (vs : Array Value), h.get? a = some o ∧ o.cls = cls ∧ o.dict = none ∧ o.data = .fields vs
/-- numbers to addresses; F: what is never changed again -/
structure G where
  n : Nat
  f : Nat → Addr
  F : Addr → Prop
  P : Addr → Prop

mutual
inductive RV (K : PySem.W.Frag) (g : G) (H : Hp) : PV → V → Prop
  | non : RV K g H .non .non
  | bl (b : Bool) : RV K g H (.bl b) (.bl b)
  | int (i : Int) : RV K g H (.int i) (.int i)
  | str (x : Str) : RV K g H (.str x) (.str x)
  | tup {a : Addr} {vs : List V} {xs : List PV} : SqN K H a vs → RVL K g H xs vs → RV K g H (.tup xs) (.ref a)
  | wtp {a : Addr} {vs : List V} {xs : List PV} : SqT K H a vs → RVL K g H xs vs → RV K g H (.wtp xs) (.ref a)
  | lst {a : Addr} {vs : List V} {xs : List PV} : g.F a → H a = some (.lst vs) → RVL K g H xs vs → RV K g H (.lst xs) (.ref a)
  | rol {a : Addr} {o : Obj} {vs : List V} {xs : List PV} : g.F a → H a = some (.frz o (.lst vs)) → RVL K g H xs vs → RV K g H (.rol xs) (.ref a)
  | rolK {a : Addr} {vs : List V} {xs : List PV} : (∀ H', SqL K H' a vs) → (∀ H', TyX K H' (.ref a) (.type "list")) → RVL K g H xs vs → RV K g H (.rol xs) (.ref a)
  | dct {a : Addr} {ws : List (Key × V)} {kvs : List (Key × PV)} : g.F a → H a = some (.dK ws) → RVK K g H kvs ws → RV K g H (.dct kvs) (.ref a)
  | ref {k : Nat} : k < g.n → RV K g H (.ref k) (.ref (g.f k))
  | raw (v : V) : RV K g H (.raw v) v
  | err {a : Addr} {n : String} : g.F a → H a = some (ErrO (clsK K n) a) → RV K g H (.err n) (.ref a)
inductive RVL (K : PySem.W.Frag) (g : G) (H : Hp) : List PV → List V → Prop
  | nil : RVL K g H [] []
  | cons {x : PV} {xs : List PV} {v : V} {vs : List V} : RV K g H x v → RVL K g H xs vs → RVL K g H (x :: xs) (v :: vs)
inductive RVK (K : PySem.W.Frag) (g : G) (H : Hp) : List (Key × PV) → List (Key × V) → Prop
  | nil : RVK K g H [] []
  | cons {k : Key} {x : PV} {xs : List (Key × PV)} {v : V} {vs : List (Key × V)} : RV K g H x v → RVK K g H xs vs → RVK K g H ((k, x) :: xs) ((k, v) :: vs)
end

/-- a tuple, known or not -/
inductive TupO : HO → Prop
  | w (xs : List V) : TupO (.tup xs)
  | k (o : Obj) (xs : List V) : TupO (.frz o (.tup xs))
/-- the world goes on: what was known stays known (the part that values need) -/
structure ExtW (g : G) (H : Hp) (g' : G) (H' : Hp) : Prop where
  n : g.n ≤ g'.n
  f : ∀ k, k < g.n → g'.f k = g.f k
  F : ∀ a, g.F a → g'.F a ∧ H' a = H a
  t : ∀ a u, TupO u → H a = some u → H' a = some u
/-- .. and what is guarded -/
structure Ext (g : G) (H : Hp) (g' : G) (H' : Hp) : Prop extends ExtW g H g' H' where
  P : ∀ a, g.P a → g'.P a ∧ H' a = H a
theorem Ext.refl (g : G) (H : Hp) : Ext g H g H := ⟨⟨Nat.le_refl _, fun _ _ => rfl, fun _ h => ⟨h, rfl⟩, fun _ _ _ h => h⟩, fun _ h => ⟨h, rfl⟩⟩
theorem ExtW.trans {g g1 g2 : G} {H H1 H2 : Hp} (a : ExtW g H g1 H1) (b : ExtW g1 H1 g2 H2) : ExtW g H g2 H2 :=
  ⟨Nat.le_trans a.n b.n, fun k h => (b.f k (Nat.lt_of_lt_of_le h a.n)).trans (a.f k h), fun x h => ⟨(b.F x (a.F x h).1).1, (b.F x (a.F x h).1).2.trans (a.F x h).2⟩, fun x u k h => b.t x u k (a.t x u k h)⟩
theorem Ext.trans {g g1 g2 : G} {H H1 H2 : Hp} (a : Ext g H g1 H1) (b : Ext g1 H1 g2 H2) : Ext g H g2 H2 :=
  ⟨a.toExtW.trans b.toExtW, fun x h => ⟨(b.P x (a.P x h).1).1, (b.P x (a.P x h).1).2.trans (a.P x h).2⟩⟩
theorem ExtW.seqT {K : PySem.W.Frag} {g g' : G} {H H' : Hp} (e : ExtW g H g' H') {a : Addr} {xs : List V} (h : SqT K H a xs) : SqT K H' a xs :=
  h.elim (fun z => .inl (z.elim (fun q => .inl (e.t _ _ (.w _) q)) fun ⟨o, q⟩ => .inr ⟨o, e.t _ _ (.k _ _) q⟩)) .inr
theorem ExtW.seqN {K : PySem.W.Frag} {g g' : G} {H H' : Hp} (e : ExtW g H g' H') {a : Addr} {xs : List V} (h : SqN K H a xs) : SqN K H' a xs :=
  h.elim (fun ⟨o, d, q⟩ => .inl ⟨o, d, e.t _ _ (.k _ _) q⟩) .inr

mutual
theorem RV.monoW {K : PySem.W.Frag} {g g' : G} {H H' : Hp} (e : ExtW g H g' H') : ∀ {x : PV} {v : V}, RV K g H x v → RV K g' H' x v
  | _, _, .non => .non
  | _, _, .bl b => .bl b
  | _, _, .int i => .int i
  | _, _, .str x => .str x
  | _, _, .tup h l => .tup (e.seqN h) (RVL.monoW e l)
  | _, _, .wtp h l => .wtp (e.seqT h) (RVL.monoW e l)
  | _, _, .lst a r l => .lst (e.F _ a).1 ((e.F _ a).2.trans r) (RVL.monoW e l)
  | _, _, .rol a r l => .rol (e.F _ a).1 ((e.F _ a).2.trans r) (RVL.monoW e l)
  | _, _, .rolK h h2 l => .rolK h h2 (RVL.monoW e l)
  | _, _, .dct a r l => .dct (e.F _ a).1 ((e.F _ a).2.trans r) (RVK.monoW e l)
  | _, _, .ref (k := k) h => by
    rw [← e.f k h]
    exact .ref (Nat.lt_of_lt_of_le h e.n)
  | _, _, .raw v => .raw v
  | _, _, .err a r => .err (e.F _ a).1 ((e.F _ a).2.trans r)
theorem RVL.monoW {K : PySem.W.Frag} {g g' : G} {H H' : Hp} (e : ExtW g H g' H') : ∀ {xs : List PV} {vs : List V}, RVL K g H xs vs → RVL K g' H' xs vs
  | _, _, .nil => .nil
  | _, _, .cons h l => .cons (RV.monoW e h) (RVL.monoW e l)
theorem RVK.monoW {K : PySem.W.Frag} {g g' : G} {H H' : Hp} (e : ExtW g H g' H') : ∀ {xs : List (Key × PV)} {vs : List (Key × V)}, RVK K g H xs vs → RVK K g' H' xs vs
  | _, _, .nil => .nil
  | _, _, .cons h l => .cons (RV.monoW e h) (RVK.monoW e l)
end

section
variable {K : PySem.W.Frag} {g g' : G} {H H' : Hp}
theorem RV.mono (e : Ext g H g' H') {x : PV} {v : V} (h : RV K g H x v) : RV K g' H' x v := h.monoW e.toExtW
theorem RVL.mono (e : Ext g H g' H') {x : List PV} {v : List V} (h : RVL K g H x v) : RVL K g' H' x v := h.monoW e.toExtW
theorem RVK.mono (e : Ext g H g' H') {x : List (Key × PV)} {v : List (Key × V)} (h : RVK K g H x v) : RVK K g' H' x v := h.monoW e.toExtW
end

section
variable {K : PySem.W.Frag} {g : G} {H : Hp}
theorem RVL.length : ∀ {xs : List PV} {vs : List V}, RVL K g H xs vs → xs.length = vs.length
  | _, _, .nil => rfl
  | _, _, .cons _ l => by simp [l.length]
theorem RVL.get : ∀ {xs : List PV} {vs : List V} {i : Nat} {x : PV}, RVL K g H xs vs → xs[i]? = some x → ∃ v, vs[i]? = some v ∧ RV K g H x v
  | _, _, _, _, .nil, e => by simp at e
  | _, _, 0, _, .cons r _, e => by simp at e; subst e; exact ⟨_, rfl, r⟩
  | _, _, i + 1, x, .cons _ l, e => by simpa using l.get (i := i) (x := x) (by simpa using e)
theorem RVL.getV : ∀ {xs : List PV} {vs : List V} {i : Nat} {v : V}, RVL K g H xs vs → vs[i]? = some v → ∃ x, xs[i]? = some x ∧ RV K g H x v
  | _, _, _, _, .nil, e => by simp at e
  | _, _, 0, _, .cons r _, e => by simp at e; subst e; exact ⟨_, rfl, r⟩
  | _, _, i + 1, v, .cons _ l, e => by simpa using l.getV (i := i) (v := v) (by simpa using e)
theorem RVL.append : ∀ {xs ys : List PV} {vs ws : List V}, RVL K g H xs vs → RVL K g H ys ws → RVL K g H (xs ++ ys) (vs ++ ws)
  | _, _, _, _, .nil, s => s
  | _, _, _, _, .cons r l, s => .cons r (l.append s)
theorem RVL.take : ∀ (n : Nat) {xs : List PV} {vs : List V}, RVL K g H xs vs → RVL K g H (xs.take n) (vs.take n)
  | 0, _, _, _ => by simpa using .nil
  | _ + 1, _, _, .nil => by simpa using .nil
  | n + 1, _, _, .cons r l => .cons r (l.take n)
theorem RVL.drop : ∀ (n : Nat) {xs : List PV} {vs : List V}, RVL K g H xs vs → RVL K g H (xs.drop n) (vs.drop n)
  | 0, _, _, l => l
  | _ + 1, _, _, .nil => .nil
  | n + 1, _, _, .cons _ l => l.drop n
theorem RVL.set {x : PV} {v : V} (r : RV K g H x v) : ∀ (i : Nat) {xs : List PV} {vs : List V}, RVL K g H xs vs → RVL K g H (xs.set i x) (vs.set i v)
  | _, _, _, .nil => .nil
  | 0, _, _, .cons _ l => .cons r l
  | i + 1, _, _, .cons q l => .cons q (l.set r i)
theorem RVL.reverse : ∀ {xs : List PV} {vs : List V}, RVL K g H xs vs → RVL K g H xs.reverse vs.reverse
  | _, _, .nil => .nil
  | _, _, .cons r l => by
    rw [List.reverse_cons, List.reverse_cons]
    exact l.reverse.append (.cons r .nil)
theorem RVL.rep {xs : List PV} {vs : List V} (l : RVL K g H xs vs) : ∀ k : Nat, RVL K g H (List.replicate k xs).flatten (List.replicate k vs).flatten
  | 0 => .nil
  | k + 1 => by simpa [List.replicate_succ] using l.append (l.rep k)
theorem RVL.eraseIdx : ∀ (i : Nat) {xs : List PV} {vs : List V}, RVL K g H xs vs → RVL K g H (xs.eraseIdx i) (vs.eraseIdx i)
  | _, _, _, .nil => .nil
  | 0, _, _, .cons _ l => l
  | i + 1, _, _, .cons r l => .cons r (l.eraseIdx i)
theorem RVL.strs : ∀ {ss : List Str} {vs : List V}, RVL K g H (ss.map PV.str) vs → vs = ss.map V.str
  | [], _, .nil => rfl
  | _ :: _, _, .cons r l => by cases r; rw [l.strs]; rfl
theorem RVL.ints : ∀ {ns : List Int} {vs : List V}, RVL K g H (ns.map PV.int) vs → vs = ns.map V.int
  | [], _, .nil => rfl
  | _ :: _, _, .cons r l => by cases r; rw [l.ints]; rfl
theorem RVL.bools : ∀ {ns : List Bool} {vs : List V}, RVL K g H (ns.map PV.bl) vs → vs = ns.map V.bl
  | [], _, .nil => rfl
  | _ :: _, _, .cons r l => by cases r; rw [l.bools]; rfl
theorem RVL.ofStrs : ∀ (ss : List Str), RVL K g H (ss.map PV.str) (ss.map V.str)
  | [] => .nil
  | x :: r => .cons (.str x) (RVL.ofStrs r)
theorem RVL.ofInts : ∀ (ss : List Int), RVL K g H (ss.map PV.int) (ss.map V.int)
  | [] => .nil
  | x :: r => .cons (.int x) (RVL.ofInts r)
end

/-- what stands in the store at a number -/
def MOk (K : PySem.W.Frag) (g : G) (H : Hp) (a : Addr) : MO → Prop
  | .lst xs => ∃ vs, H a = some (.lst vs) ∧ RVL K g H xs vs
  | .dct kvs => ∃ ws, H a = some (.dK ws) ∧ RVK K g H kvs ws
  | .dead => nt H a
def alive : MO → Bool
  | .dead => false
  | _ => true
structure StOk (K : PySem.W.Frag) (g : G) (H : Hp) (st : Sto) : Prop where
  len : g.n = st.length
  inj : ∀ i j, i < g.n → j < g.n → g.f i = g.f j → i = j
  sep : ∀ (i : Nat) (o : MO), st[i]? = some o → alive o = true → ¬ g.F (g.f i)
  fz : ∀ a, g.F a → nt H a
  pr : ∀ a, g.P a → nt H a ∧ ¬ g.F a ∧ ∀ i, i < g.n → g.f i ≠ a
  at_ : ∀ (i : Nat) (o : MO), st[i]? = some o → MOk K g H (g.f i) o
  tb : LamX.Tabs Tb.tabs H
structure EnvOk (K : PySem.W.Frag) (g : G) (H : Hp) (env : Lo) (σ : L2.St) : Prop where
  len : σ.length = env.length
  at_ : ∀ (i : Nat) (x : PV), env[i]? = some (some x) → ∃ v, σ[i]? = some (some v) ∧ RV K g H x v
  lm : ∀ (i : Nat) (a : Addr), Lm.at_ i = some a → env[i]? = some none → σ[i]? = some (some (.ref a))
theorem EnvOk.mono {K : PySem.W.Frag} {g g' : G} {H H' : Hp} {env : Lo} {σ : L2.St} (e : Ext g H g' H') (h : EnvOk K g H env σ) : EnvOk K g' H' env σ :=
  ⟨h.len, fun i x q => let ⟨v, a, b⟩ := h.at_ i x q; ⟨v, a, b.mono e⟩, h.lm⟩
theorem EnvOk.set {K : PySem.W.Frag} {g : G} {H : Hp} {env : Lo} {σ : L2.St} (h : EnvOk K g H env σ) {x : PV} {v : V} (r : RV K g H x v) (i : Nat) : EnvOk K g H (env.set i (some x)) (σ.set i (some v)) := by
  refine ⟨by simp [h.len], fun j y q => ?_, fun j a q1 q2 => ?_⟩
  rotate_left
  · by_cases e : i = j
    · subst e
      by_cases hi : i < env.length
      · rw [List.getElem?_set_self hi] at q2; cases q2
      · rw [List.getElem?_eq_none (by simpa using hi)] at q2; cases q2
    · rw [List.getElem?_set_ne e] at q2
      rw [List.getElem?_set_ne e]
      exact h.lm j a q1 q2
  by_cases e : i = j
  · subst e
    have hi : i < env.length := by
      have := (List.getElem?_eq_some_iff.mp q).1
      simpa using this
    rw [List.getElem?_set_self hi] at q
    cases q
    exact ⟨v, List.getElem?_set_self (by rw [h.len]; exact hi), r⟩
  · rw [List.getElem?_set_ne e] at q
    rw [List.getElem?_set_ne e]
    exact h.at_ j y q
theorem MOk.there {K : PySem.W.Frag} {g : G} {H : Hp} {a : Addr} {o : MO} (h : MOk K g H a o) : H a ≠ none := by
  cases o with
  | lst xs => obtain ⟨vs, e, _⟩ := h; rw [e]; exact nofun
  | dct xs => obtain ⟨vs, e, _⟩ := h; rw [e]; exact nofun
  | dead => exact h.ne
theorem MOk.nt {K : PySem.W.Frag} {g : G} {H : Hp} {a : Addr} {o : MO} (h : MOk K g H a o) : nt H a := by
  cases o with
  | lst xs => obtain ⟨vs, e, _⟩ := h; exact ⟨_, e, nofun⟩
  | dct xs => obtain ⟨vs, e, _⟩ := h; exact ⟨_, e, nofun⟩
  | dead => exact h
theorem StOk.lt {K : PySem.W.Frag} {g : G} {H : Hp} {st : Sto} (s : StOk K g H st) {i : Nat} {o : MO} (e : st[i]? = some o) : i < g.n := by
  rw [s.len]
  exact (List.getElem?_eq_some_iff.mp e).1

/-! ### results -/
/-- ok, an error (its class's name, its fields), or nothing is known -/
inductive Res (α : Type) where
  | ok (a : α) (st : Sto) | exc (n : String) (fs : List (Str × PV)) (st : Sto) | bad
def Res.bind {α β : Type} (r : Res α) (k : α → Sto → Res β) : Res β := match r with
  | .ok a st => k a st
  | .exc n fs st => .exc n fs st
  | .bad => .bad
@[simp] theorem Res.bind_ok {α β : Type} (a : α) (st : Sto) (k : α → Sto → Res β) : (Res.ok a st).bind k = k a st := rfl
@[simp] theorem Res.bind_exc {α β : Type} (n : String) (fs : List (Str × PV)) (st : Sto) (k : α → Sto → Res β) : (Res.exc n fs st).bind k = .exc n fs st := rfl
@[simp] theorem Res.bind_bad {α β : Type} (k : α → Sto → Res β) : (Res.bad : Res α).bind k = .bad := rfl

/-- how an error of the package lies: T gives its class's object -/
def RE (T : String → Value) (K : PySem.W.Frag) (g : G) (H : Hp) (n : String) (fs : List (Str × PV)) (c : Value) (d : Option Addr) : Prop :=
  c = T n ∧ match fs with
    | [] => d = none
    | fs => ∃ dd ws, d = some dd ∧ H dd = some (.xd ws) ∧ ws.map (·.1) = fs.map (·.1) ∧ RVL K g H (fs.map (·.2)) (ws.map (·.2))

section
variable {α β γ : Type}
/-- what a result asks of what is wanted -/
def okR (T : String → Value) (K : PySem.W.Frag) (R : G → Hp → α → β → Prop) (g : G) (H : Hp) (r : Res α) (Q : β → Hp → Prop) (E : XK) : Prop := match r with
  | .ok x st => ∀ g' H' v, Ext g H g' H' → StOk K g' H' st → R g' H' x v → Q v H'
  | .exc n fs st => ∀ g' H' c d, Ext g H g' H' → StOk K g' H' st → RE T K g' H' n fs c d → E c d H'
  | .bad => False
variable {T : String → Value} {K : PySem.W.Frag} {R : G → Hp → α → β → Prop} {g g' : G} {H H' : Hp} {r : Res α} {Q : β → Hp → Prop} {E : XK}
theorem okR.ext (h : okR T K R g H r Q E) (e : Ext g H g' H') : okR T K R g' H' r Q E := by
  cases r with
  | ok x st => exact fun g2 H2 v e2 => h g2 H2 v (e.trans e2)
  | exc n fs st => exact fun g2 H2 c d e2 => h g2 H2 c d (e.trans e2)
  | bad => exact h
theorem okR.imp {Q' : β → Hp → Prop} (h : okR T K R g H r Q E) (i : ∀ v H', Q v H' → Q' v H') : okR T K R g H r Q' E := by
  cases r with
  | ok x st => exact fun g2 H2 v e2 s2 r2 => i _ _ (h g2 H2 v e2 s2 r2)
  | exc n fs st => exact h
  | bad => exact h
/-- one step, then the rest -/
theorem okR.step {δ : Type} {R' : G → Hp → γ → δ → Prop} {r' : Res γ} {k : γ → Sto → Res α} (h : okR T K R g H (r'.bind k) Q E) :
    okR T K R' g H r' (fun v H1 => ∃ g1 st1 x, Ext g H g1 H1 ∧ StOk K g1 H1 st1 ∧ R' g1 H1 x v ∧ okR T K R g1 H1 (k x st1) Q E) E := by
  cases r' with
  | ok x st => exact fun g1 H1 v e1 s1 r1 => ⟨g1, st, x, e1, s1, r1, okR.ext h e1⟩
  | exc n fs st => exact h
  | bad => exact h
theorem okR.fin {x : α} {st : Sto} {v : β} (h : okR T K R g H (.ok x st) Q E) (s : StOk K g H st) (r : R g H x v) : Q v H := h g H v (Ext.refl _ _) s r
theorem okR.finE {x : α} {st : Sto} {v : β} (h : okR T K R g H (.ok x st) Q E) (e : Ext g H g' H') (s : StOk K g' H' st) (r : R g' H' x v) : Q v H' := h g' H' v e s r
end
end Sim

set_option Elab.async false
set_option linter.all false
set_option maxRecDepth 100000
set_option maxHeartbeats 4000000
namespace Sim
open PySem PySem.Spec PyProof.Rows L2
variable [Tb] [Lm]

/-! ### what happens to the heap -/
section
variable {K : PySem.W.Frag} {g : G} {H : Hp} {st : Sto} {p : Addr} {o : HO}
theorem tabs_up {H H' : Hp} (t : LamX.Tabs Tb.tabs H) (e : ∀ b o, H b = some o → (∀ xs, o ≠ .lst xs) → (∀ xs, o ≠ .dK xs) → H' b = some o) : LamX.Tabs Tb.tabs H' := fun p hp => by
  obtain ⟨ps, h1, h2, h3⟩ := t p hp
  refine ⟨ps, e _ _ h1 nofun nofun, h2, fun pos cv hc => ?_⟩
  obtain ⟨c, e1, e2⟩ := h3 pos cv hc
  exact ⟨c, e1, e _ _ e2 (fun xs z => by unfold LamX.CodeO at z; cases z) (fun xs z => by unfold LamX.CodeO at z; cases z)⟩
theorem tabs_new (s : StOk K g H st) (hp : H p = none) : LamX.Tabs Tb.tabs (upd H p o) := tabs_up s.tb fun b u h _ _ => by rw [upd_ne (ne_of_none h hp)]; exact h
theorem ext_new (s : StOk K g H st) (hp : H p = none) : Ext g H g (upd H p o) :=
  ⟨⟨Nat.le_refl _, fun _ _ => rfl, fun a h => ⟨h, upd_ne fun e => (s.fz a h).ne (e ▸ hp)⟩, fun a u _ h => by rw [upd_ne (ne_of_none h hp)]; exact h⟩, fun a h => ⟨h, upd_ne fun e => (s.pr a h).1.ne (e ▸ hp)⟩⟩
theorem MOk.keep {g' : G} {H' : Hp} {a : Addr} {m : MO} (h : MOk K g H a m) (e : Ext g H g' H') (k : H' a = H a) : MOk K g' H' a m := by
  cases m with
  | lst xs => obtain ⟨vs, q, r⟩ := h; exact ⟨vs, k.trans q, r.mono e⟩
  | dct xs => obtain ⟨vs, q, r⟩ := h; exact ⟨vs, k.trans q, r.mono e⟩
  | dead => exact nt.of h k
theorem st_new (s : StOk K g H st) (hp : H p = none) : StOk K g (upd H p o) st := by
  have ne : ∀ {a}, H a ≠ none → a ≠ p := fun h e => h (e ▸ hp)
  refine ⟨s.len, s.inj, s.sep, fun a h => ?_, fun a h => ⟨?_, (s.pr a h).2⟩, fun i m e => ?_, tabs_new s hp⟩
  · exact (s.fz a h).of (upd_ne (ne (s.fz a h).ne))
  · exact (s.pr a h).1.of (upd_ne (ne (s.pr a h).1.ne))
  · exact (s.at_ i m e).keep (ext_new s hp) (upd_ne (ne (s.at_ i m e).there))
/-- a new thing that is never changed -/
def G.frz (g : G) (p : Addr) : G := { g with F := fun a => g.F a ∨ a = p }
theorem ext_frz (s : StOk K g H st) (hp : H p = none) : Ext g H (g.frz p) (upd H p o) :=
  ⟨⟨Nat.le_refl _, fun _ _ => rfl, fun a h => ⟨.inl h, upd_ne fun e => (s.fz a h).ne (e ▸ hp)⟩, fun a u _ h => by rw [upd_ne (ne_of_none h hp)]; exact h⟩, fun a h => ⟨h, upd_ne fun e => (s.pr a h).1.ne (e ▸ hp)⟩⟩
theorem st_frz (s : StOk K g H st) (hp : H p = none) (ho : ∀ ps, o ≠ HO.tbl ps := by intro ps z; cases z) : StOk K (g.frz p) (upd H p o) st := by
  have ne : ∀ {a}, H a ≠ none → a ≠ p := fun h e => h (e ▸ hp)
  refine ⟨s.len, s.inj, fun i m e al h => ?_, fun a h => ?_, fun a h => ⟨?_, fun z => ?_, (s.pr a h).2.2⟩, fun i m e => ?_, tabs_new s hp⟩
  · rcases h with h | h
    · exact s.sep i m e al h
    · exact ne (s.at_ i m e).there h
  · rcases h with h | h
    · exact (s.fz a h).of (upd_ne (ne (s.fz a h).ne))
    · subst h; exact ⟨_, upd_same, ho⟩
  · exact (s.pr a h).1.of (upd_ne (ne (s.pr a h).1.ne))
  · rcases z with z | z
    · exact (s.pr a h).2.1 z
    · exact ne (s.pr a h).1.ne z
  · exact (s.at_ i m e).keep (ext_frz s hp) (upd_ne (ne (s.at_ i m e).there))
/-- a new thing of the store -/
def G.put (g : G) (p : Addr) : G := { g with n := g.n + 1, f := fun k => if k = g.n then p else g.f k }
theorem G.put_old {g : G} {p : Addr} {k : Nat} (h : k < g.n) : (g.put p).f k = g.f k := if_neg (Nat.ne_of_lt h)
theorem G.put_new {g : G} {p : Addr} : (g.put p).f g.n = p := if_pos rfl
theorem ext_put (s : StOk K g H st) (hp : H p = none) : Ext g H (g.put p) (upd H p o) :=
  ⟨⟨Nat.le_succ _, fun k h => G.put_old h, fun a h => ⟨h, upd_ne fun e => (s.fz a h).ne (e ▸ hp)⟩, fun a u _ h => by rw [upd_ne (ne_of_none h hp)]; exact h⟩, fun a h => ⟨h, upd_ne fun e => (s.pr a h).1.ne (e ▸ hp)⟩⟩
theorem st_put {m : MO} (s : StOk K g H st) (hp : H p = none) (hm : MOk K (g.put p) (upd H p o) p m) : StOk K (g.put p) (upd H p o) (st ++ [m]) := by
  have ne : ∀ {a}, H a ≠ none → a ≠ p := fun h e => h (e ▸ hp)
  have ht : ∀ i, i < g.n → H (g.f i) ≠ none := fun i h => by
    have h' : i < st.length := by rw [← s.len]; exact h
    exact (s.at_ i st[i] (List.getElem?_eq_getElem h')).there
  have low : ∀ {i : Nat} {m' : MO}, (st ++ [m])[i]? = some m' → (i < g.n ∧ st[i]? = some m') ∨ (i = g.n ∧ m' = m) := fun {i m'} e => by
    by_cases h : i < st.length
    · rw [List.getElem?_append_left h] at e
      exact .inl ⟨by rw [s.len]; exact h, e⟩
    · rw [List.getElem?_append_right (by omega)] at e
      have h2 : i - st.length = 0 := by
        have := (List.getElem?_eq_some_iff.mp e).1
        simp at this
        omega
      rw [h2] at e
      exact .inr ⟨by rw [s.len]; omega, by simpa using e.symm⟩
  refine ⟨?_, fun i j hi hj e => ?_, fun i m' e al h => ?_, fun a h => ?_, fun a h => ⟨?_, (s.pr a h).2.1, fun i hi z => ?_⟩, fun i m' e => ?_, tabs_new s hp⟩
  · show g.n + 1 = _
    rw [List.length_append, s.len]; rfl
  · have hi' : i < g.n + 1 := hi
    have hj' : j < g.n + 1 := hj
    by_cases h1 : i < g.n
    · by_cases h2 : j < g.n
      · rw [G.put_old h1, G.put_old h2] at e; exact s.inj i j h1 h2 e
      · have : j = g.n := by omega
        subst this
        rw [G.put_old h1, G.put_new] at e
        exact absurd e (ne (ht i h1))
    · have : i = g.n := by omega
      subst this
      by_cases h2 : j < g.n
      · rw [G.put_old h2, G.put_new] at e
        exact absurd e.symm (ne (ht j h2))
      · omega
  · rcases low e with ⟨hi, e⟩ | ⟨hi, e⟩
    · rw [G.put_old hi] at h; exact s.sep i m' e al h
    · subst hi; rw [G.put_new] at h; exact (s.fz p h).ne hp
  · exact (s.fz a h).of (upd_ne (ne (s.fz a h).ne))
  · exact (s.pr a h).1.of (upd_ne (ne (s.pr a h).1.ne))
  · have hi' : i < g.n + 1 := hi
    by_cases h1 : i < g.n
    · rw [G.put_old h1] at z; exact (s.pr a h).2.2 i h1 z
    · have : i = g.n := by omega
      subst this
      rw [G.put_new] at z
      exact ne (s.pr a h).1.ne z.symm
  · rcases low e with ⟨hi, e2⟩ | ⟨hi, e2⟩
    · rw [G.put_old hi]; exact (s.at_ i m' e2).keep (ext_put s hp) (upd_ne (ne (ht i hi)))
    · subst hi; subst e2; rw [G.put_new]; exact hm
/-- a thing of the store is changed -/
theorem ext_write {k : Nat} {m : MO} (s : StOk K g H st) (e : st[k]? = some m) (al : alive m = true) : Ext g H g (upd H (g.f k) o) := by
  refine ⟨⟨Nat.le_refl _, fun _ _ => rfl, fun a h => ⟨h, upd_ne fun q => s.sep k m e al (q ▸ h)⟩, fun a u tu h => ?_⟩, fun a h => ⟨h, upd_ne fun q => (s.pr a h).2.2 k (s.lt e) q.symm⟩⟩
  have ne : a ≠ g.f k := fun q => by
    subst q
    have hm := s.at_ k m e
    cases m with
    | lst ys => obtain ⟨vs, q, _⟩ := hm; rw [q] at h; cases h; cases tu
    | dct ys => obtain ⟨vs, q, _⟩ := hm; rw [q] at h; cases h; cases tu
    | dead => cases al
  rw [upd_ne ne]; exact h
theorem tabs_write {k : Nat} {m : MO} (s : StOk K g H st) (e : st[k]? = some m) (al : alive m = true) : LamX.Tabs Tb.tabs (upd H (g.f k) o) := tabs_up s.tb fun b u h n1 n2 => by
  have ne : b ≠ g.f k := fun q => by
    subst q
    have hm := s.at_ k m e
    cases m with
    | lst ys => obtain ⟨vs, q, _⟩ := hm; rw [q] at h; cases h; exact n1 _ rfl
    | dct ys => obtain ⟨vs, q, _⟩ := hm; rw [q] at h; cases h; exact n2 _ rfl
    | dead => cases al
  rw [upd_ne ne]; exact h
theorem st_write {k : Nat} {m m' : MO} (s : StOk K g H st) (e : st[k]? = some m) (al : alive m = true) (hm : MOk K g (upd H (g.f k) o) (g.f k) m') : StOk K g (upd H (g.f k) o) (st.set k m') := by
  have x := ext_write (o := o) s e al
  have hk := s.lt e
  refine ⟨by rw [List.length_set]; exact s.len, s.inj, fun i m2 e2 al2 h => ?_, fun a h => ?_, fun a h => ⟨?_, (s.pr a h).2⟩, fun i m2 e2 => ?_, tabs_write s e al⟩
  · by_cases q : k = i
    · subst q; exact s.sep k m e al h
    · rw [List.getElem?_set_ne q] at e2; exact s.sep i m2 e2 al2 h
  · exact (s.fz a h).of (x.F a h).2
  · exact (s.pr a h).1.of (x.P a h).2
  · by_cases q : k = i
    · subst q
      rw [List.getElem?_set_self (by rw [← s.len]; exact hk)] at e2
      cases e2; exact hm
    · rw [List.getElem?_set_ne q] at e2
      have hi := s.lt e2
      exact (s.at_ i m2 e2).keep x (upd_ne fun z => q (s.inj i k hi hk z).symm)
/-- a thing of the store is given up: it is never changed again -/
theorem ext_drop {k : Nat} {m : MO} (s : StOk K g H st) (e : st[k]? = some m) : Ext g H (g.frz (g.f k)) H :=
  ⟨⟨Nat.le_refl _, fun _ _ => rfl, fun a h => ⟨.inl h, rfl⟩, fun _ _ _ h => h⟩, fun _ h => ⟨h, rfl⟩⟩
theorem st_drop {k : Nat} {m : MO} (s : StOk K g H st) (e : st[k]? = some m) : StOk K (g.frz (g.f k)) H (st.set k .dead) := by
  have x := ext_drop s e
  have hk := s.lt e
  refine ⟨by rw [List.length_set]; exact s.len, s.inj, fun i m2 e2 al2 h => ?_, fun a h => ?_, fun a h => ⟨(s.pr a h).1, fun z => ?_, (s.pr a h).2.2⟩, fun i m2 e2 => ?_, s.tb⟩
  · by_cases q : k = i
    · subst q
      rw [List.getElem?_set_self (by rw [← s.len]; exact hk)] at e2
      cases e2; cases al2
    · rw [List.getElem?_set_ne q] at e2
      rcases h with h | h
      · exact s.sep i m2 e2 al2 h
      · exact q (s.inj i k (s.lt e2) hk h).symm
  · rcases h with h | h
    · exact s.fz a h
    · subst h; exact (s.at_ k m e).nt
  · rcases z with z | z
    · exact (s.pr a h).2.1 z
    · exact (s.pr a h).2.2 k hk z.symm
  · by_cases q : k = i
    · subst q
      rw [List.getElem?_set_self (by rw [← s.len]; exact hk)] at e2
      cases e2; exact (s.at_ k m e).nt
    · rw [List.getElem?_set_ne q] at e2
      exact (s.at_ i m2 e2).keep x rfl
end

/-! ### the mirrors and their readings -/
abbrev M := Lo → Sto → Res PV
abbrev MB := Lo → Sto → Res Bool
abbrev ML := Lo → Sto → Res (List PV)
inductive Out where
  | nx (env : Lo) (st : Sto) | rt (x : PV) (st : Sto) | bk (env : Lo) (st : Sto) | ct (env : Lo) (st : Sto)
  | exc (n : String) (fs : List (Str × PV)) (st : Sto) | bad
abbrev MS := Lo → Sto → Out

abbrev rV (K : PySem.W.Frag) : G → Hp → PV → V → Prop := fun g H x v => RV K g H x v
abbrev rB : G → Hp → Bool → Bool → Prop := fun _ _ b c => b = c
abbrev rL (K : PySem.W.Frag) : G → Hp → List PV → List V → Prop := fun g H x v => RVL K g H x v

section
variable (T : String → Value) (K : PySem.W.Frag) (E : XK)
def TV (m : M) : TE := fun σ H Q => ∃ g st env, StOk K g H st ∧ EnvOk K g H env σ ∧ okR T K (rV K) g H (m env st) Q E
def TB (m : MB) : TT := fun σ H Q => ∃ g st env, StOk K g H st ∧ EnvOk K g H env σ ∧ okR T K rB g H (m env st) Q E
def TL (m : ML) : TA := fun σ H Q => ∃ g st env, StOk K g H st ∧ EnvOk K g H env σ ∧ okR T K (rL K) g H (m env st) Q E
def okS (g : G) (H : Hp) (r : Out) (D : Ends) : Prop := match r with
  | .nx env st => ∀ g' H' σ', Ext g H g' H' → StOk K g' H' st → EnvOk K g' H' env σ' → D.nx σ' H'
  | .rt x st => ∀ g' H' v, Ext g H g' H' → StOk K g' H' st → RV K g' H' x v → D.rt v H'
  | .bk env st => ∀ g' H' σ', Ext g H g' H' → StOk K g' H' st → EnvOk K g' H' env σ' → D.bk σ' H'
  | .ct env st => ∀ g' H' σ', Ext g H g' H' → StOk K g' H' st → EnvOk K g' H' env σ' → D.ct σ' H'
  | .exc n fs st => ∀ g' H' c d, Ext g H g' H' → StOk K g' H' st → RE T K g' H' n fs c d → E c d H'
  | .bad => False
def TSt (m : MS) : TS := fun D σ H => ∃ g st env, StOk K g H st ∧ EnvOk K g H env σ ∧ okS T K E g H (m env st) D
end
section
variable {T : String → Value} {K : PySem.W.Frag} {E : XK}
theorem okS.ext {g g' : G} {H H' : Hp} {r : Out} {D : Ends} (h : okS T K E g H r D) (e : Ext g H g' H') : okS T K E g' H' r D := by
  cases r with
  | nx env st => exact fun g2 H2 v e2 => h g2 H2 v (e.trans e2)
  | rt env st => exact fun g2 H2 v e2 => h g2 H2 v (e.trans e2)
  | bk env st => exact fun g2 H2 v e2 => h g2 H2 v (e.trans e2)
  | ct env st => exact fun g2 H2 v e2 => h g2 H2 v (e.trans e2)
  | exc n fs st => exact fun g2 H2 c d e2 => h g2 H2 c d (e.trans e2)
  | bad => exact h
end

/-! ### the rules' weakening -/
section
variable {X : Cx}
theorem pe_imp {e : Expr} {t t' : TE} (h : PE X e t) (i : ∀ σ H Q, t' σ H Q → t σ H Q) : PE X e t' := ⟨fun pins s σ H Q I q => h.run pins s σ H Q I (i σ H Q q)⟩
theorem pt_imp {e : Expr} {t t' : TT} (h : PT X e t) (i : ∀ σ H Q, t' σ H Q → t σ H Q) : PT X e t' := ⟨fun pins s σ H Q I q => h.run pins s σ H Q I (i σ H Q q)⟩
theorem pw_imp {e : Expr} {t t' : TT} (h : PW X e t) (i : ∀ σ H Q, t' σ H Q → t σ H Q) : PW X e t' := ⟨fun wh pins s σ H Q I q => h.run wh pins s σ H Q I (i σ H Q q)⟩
theorem pa_imp {e : List Expr} {t t' : TA} (h : PA X e t) (i : ∀ σ H Q, t' σ H Q → t σ H Q) : PA X e t' := ⟨fun pos pins s σ H Q I q => h.run pos pins s σ H Q I (i σ H Q q)⟩
theorem ps_imp {e : Stmt} {t t' : TS} (h : PS X e t) (i : ∀ D σ H, t' D σ H → t D σ H) : PS X e t' := ⟨fun pins s σ H D I q => h.run pins s σ H D I (i D σ H q)⟩
theorem pss_imp {e : List Stmt} {t t' : TS} (h : PSs X e t) (i : ∀ D σ H, t' D σ H → t D σ H) : PSs X e t' := ⟨fun pins s σ H D I q => h.run pins s σ H D I (i D σ H q)⟩
end

/-- from a reading to its next: what the step lemma leaves, unpacked -/
theorem tv_of {T : String → Value} {K : PySem.W.Frag} {E : XK} {α β : Type} {R : G → Hp → α → β → Prop} {g : G} {H : Hp} {σ : L2.St} {env : Lo} {st : Sto} {m : M} {k : PV → Sto → Res α} {Q : β → Hp → Prop} {Q' : VK}
    (s : StOk K g H st) (e : EnvOk K g H env σ) (h : okR T K R g H ((m env st).bind k) Q E)
    (next : ∀ g1 H1 st1 x v, Ext g H g1 H1 → StOk K g1 H1 st1 → EnvOk K g1 H1 env σ → RV K g1 H1 x v → okR T K R g1 H1 (k x st1) Q E → Q' v H1) : TV T K E m σ H Q' :=
  ⟨g, st, env, s, e, h.step.imp fun v H1 ⟨g1, st1, x, e1, s1, r1, h1⟩ => next g1 H1 st1 x v e1 s1 (e.mono e1) r1 h1⟩
theorem tb_of {T : String → Value} {K : PySem.W.Frag} {E : XK} {α β : Type} {R : G → Hp → α → β → Prop} {g : G} {H : Hp} {σ : L2.St} {env : Lo} {st : Sto} {m : MB} {k : Bool → Sto → Res α} {Q : β → Hp → Prop} {Q' : Bool → Hp → Prop}
    (s : StOk K g H st) (e : EnvOk K g H env σ) (h : okR T K R g H ((m env st).bind k) Q E)
    (next : ∀ g1 H1 st1 b, Ext g H g1 H1 → StOk K g1 H1 st1 → EnvOk K g1 H1 env σ → okR T K R g1 H1 (k b st1) Q E → Q' b H1) : TB T K E m σ H Q' :=
  ⟨g, st, env, s, e, h.step.imp fun v H1 ⟨g1, st1, x, e1, s1, r1, h1⟩ => by
    subst r1
    exact next g1 H1 st1 x e1 s1 (e.mono e1) h1⟩
theorem tl_of {T : String → Value} {K : PySem.W.Frag} {E : XK} {α β : Type} {R : G → Hp → α → β → Prop} {g : G} {H : Hp} {σ : L2.St} {env : Lo} {st : Sto} {m : ML} {k : List PV → Sto → Res α} {Q : β → Hp → Prop} {Q' : List V → Hp → Prop}
    (s : StOk K g H st) (e : EnvOk K g H env σ) (h : okR T K R g H ((m env st).bind k) Q E)
    (next : ∀ g1 H1 st1 x v, Ext g H g1 H1 → StOk K g1 H1 st1 → EnvOk K g1 H1 env σ → RVL K g1 H1 x v → okR T K R g1 H1 (k x st1) Q E → Q' v H1) : TL T K E m σ H Q' :=
  ⟨g, st, env, s, e, h.step.imp fun v H1 ⟨g1, st1, x, e1, s1, r1, h1⟩ => next g1 H1 st1 x v e1 s1 (e.mono e1) r1 h1⟩
end Sim

set_option Elab.async false
set_option linter.all false
set_option maxRecDepth 100000
set_option maxHeartbeats 4000000
namespace Sim
open PySem PySem.Spec PyProof.Rows L2
variable [Tb] [Lm]

/-! ### looking into the store -/
def asL (st : Sto) : PV → Option (List PV)
  | .lst xs => some xs
  | .rol xs => some xs
  | .ref k => match st[k]? with
    | some (.lst xs) => some xs
    | _ => none
  | _ => none
/-- a list that is no read-only one -/
def asM (st : Sto) : PV → Option (List PV)
  | .lst xs => some xs
  | .ref k => match st[k]? with
    | some (.lst xs) => some xs
    | _ => none
  | _ => none
def asT : PV → Option (List PV)
  | .tup xs => some xs
  | _ => none
def asD (st : Sto) : PV → Option (List (Key × PV))
  | .dct xs => some xs
  | .ref k => match st[k]? with
    | some (.dct xs) => some xs
    | _ => none
  | _ => none
/-- a list or a tuple -/
def asS (st : Sto) (x : PV) : Option (List PV) := match x with
  | .tup xs => some xs
  | x => asL st x
/-- the name of the type -/
def tyName (st : Sto) : PV → Option String
  | .non => some "NoneType"
  | .bl _ => some "bool"
  | .int _ => some "int"
  | .str _ => some "str"
  | .tup _ => some "tuple"
  | .lst _ => some "list"
  | .rol _ => some "list"
  | .dct _ => some "dict"
  | .ref k => match st[k]? with
    | some (.lst _) => some "list"
    | some (.dct _) => some "dict"
    | _ => none
  | .raw _ => none
  | .wtp _ => none
  | .err _ => none
section
variable {K : PySem.W.Frag} {g : G} {H : Hp} {st : Sto}
theorem asM_ok (s : StOk K g H st) {x : PV} {v : V} (r : RV K g H x v) {xs : List PV} (e : asM st x = some xs) : ∃ a vs, v = .ref a ∧ H a = some (.lst vs) ∧ RVL K g H xs vs := by
  cases r with
  | lst f h l => cases e; exact ⟨_, _, rfl, h, l⟩
  | ref hk =>
    rename_i k
    simp only [asM] at e
    split at e
    · rename_i ys q
      cases e
      obtain ⟨vs, h, l⟩ := s.at_ k _ q
      exact ⟨_, _, rfl, h, l⟩
    · cases e
  | _ => cases e
theorem asL_ok (s : StOk K g H st) {x : PV} {v : V} (r : RV K g H x v) {xs : List PV} (e : asL st x = some xs) : ∃ a vs, v = .ref a ∧ SqL K H a vs ∧ RVL K g H xs vs := by
  cases r with
  | lst f h l => cases e; exact ⟨_, _, rfl, .of h, l⟩
  | rol f h l => cases e; exact ⟨_, _, rfl, .inl (.inr ⟨_, h⟩), l⟩
  | rolK h h2 l => cases e; exact ⟨_, _, rfl, h H, l⟩
  | ref hk =>
    rename_i k
    simp only [asL] at e
    split at e
    · rename_i ys q
      cases e
      obtain ⟨vs, h, l⟩ := s.at_ k _ q
      exact ⟨_, _, rfl, .of h, l⟩
    · cases e
  | _ => cases e
theorem asT_ok {x : PV} {v : V} (r : RV K g H x v) {xs : List PV} (e : asT x = some xs) : ∃ a vs, v = .ref a ∧ SqN K H a vs ∧ RVL K g H xs vs := by
  cases r with
  | tup h l => cases e; exact ⟨_, _, rfl, h, l⟩
  | _ => cases e
theorem asS_ok (s : StOk K g H st) {x : PV} {v : V} (r : RV K g H x v) {xs : List PV} (e : asS st x = some xs) : ∃ a vs, v = .ref a ∧ (SqL K H a vs ∨ SqT K H a vs) ∧ RVL K g H xs vs := by
  cases r with
  | tup h l => cases e; exact ⟨_, _, rfl, .inr h.t, l⟩
  | lst f h l => obtain ⟨a, vs, h1, h2, h3⟩ := asL_ok s (.lst f h l) e; exact ⟨a, vs, h1, .inl h2, h3⟩
  | rol f h l => obtain ⟨a, vs, h1, h2, h3⟩ := asL_ok s (.rol f h l) e; exact ⟨a, vs, h1, .inl h2, h3⟩
  | rolK h h' l => obtain ⟨a, vs, h1, h2, h3⟩ := asL_ok s (.rolK h h' l) e; exact ⟨a, vs, h1, .inl h2, h3⟩
  | ref hk => obtain ⟨a, vs, h1, h2, h3⟩ := asL_ok s (.ref hk) e; exact ⟨a, vs, h1, .inl h2, h3⟩
  | _ => cases e
theorem asD_ok (s : StOk K g H st) {x : PV} {v : V} (r : RV K g H x v) {xs : List (Key × PV)} (e : asD st x = some xs) : ∃ a vs, v = .ref a ∧ H a = some (.dK vs) ∧ RVK K g H xs vs := by
  cases r with
  | dct f h l => cases e; exact ⟨_, _, rfl, h, l⟩
  | ref hk =>
    rename_i k
    simp only [asD] at e
    split at e
    · rename_i ys q
      cases e
      obtain ⟨vs, h, l⟩ := s.at_ k _ q
      exact ⟨_, _, rfl, h, l⟩
    · cases e
  | _ => cases e
theorem ty_T {a : Addr} {vs : List V} (h : SqT K H a vs) : TyX K H (.ref a) (.type "tuple") := by
  rcases h with (h | ⟨o, h⟩) | ⟨o, its, n, h1, h2, _⟩
  · exact .base (.tup h)
  · exact .fTuple h
  · exact .kTuple h1 h2
theorem tyName_ok (s : StOk K g H st) {x : PV} {v : V} (r : RV K g H x v) {n : String} (e : tyName st x = some n) : TyX K H v (.type n) := by
  cases r with
  | non => cases e; exact .base .non
  | bl b => cases e; exact .base (.bl b)
  | int i => cases e; exact .base (.int i)
  | str x => cases e; exact .base (.str x)
  | tup h l => cases e; exact ty_T h.t
  | wtp h l => cases e
  | lst f h l => cases e; exact .base (.lst h)
  | rol f h l => cases e; exact .base (.frz h)
  | rolK h h2 l => cases e; exact h2 H
  | dct f h l => cases e; exact .base (.dK h)
  | raw v => cases e
  | err f h => cases e
  | ref hk =>
    rename_i k
    simp only [tyName] at e
    split at e
    · rename_i ys q
      cases e
      obtain ⟨vs, h, l⟩ := s.at_ k _ q
      exact .base (.lst h)
    · rename_i ys q
      cases e
      obtain ⟨vs, h, l⟩ := s.at_ k _ q
      exact .base (.dK h)
    · cases e
end

/-! ### data -/
mutual
/-- as data without dicts -/
def toD : PV → Option PyData
  | .non => some .none
  | .bl b => some (.bool b)
  | .int i => some (.int i)
  | .str x => some (.str x)
  | .tup xs => (toDs xs).map .tuple
  | .lst xs => (toDs xs).map .list
  | .rol xs => (toDs xs).map .list
  | .dct _ => none
  | .ref _ => none
  | .raw _ => none
  | .wtp _ => none
  | .err _ => none
def toDs : List PV → Option (List PyData)
  | [] => some []
  | x :: xs => match toD x, toDs xs with
    | some d, some ds => some (d :: ds)
    | _, _ => none
end
/-- .. a list of the store at the top -/
def toDS (st : Sto) (x : PV) : Option PyData := match x with
  | .ref k => match st[k]? with
    | some (.lst xs) => (toDs xs).map .list
    | _ => none
  | x => toD x
section
variable {K : PySem.W.Frag} {g : G} {H : Hp} {st : Sto}
mutual
theorem toD_ok : ∀ {x : PV} {v : V} {d : PyData}, RV K g H x v → toD x = some d → Dp K H v d
  | .non, _, _, h, e => by cases h; cases e; exact .non
  | .bl b, _, _, h, e => by cases h; cases e; exact .bl b
  | .int i, _, _, h, e => by cases h; cases e; exact .int i
  | .str x, _, _, h, e => by cases h; cases e; exact .str x
  | .tup xs, _, _, h, e => by
    cases h with
    | tup h l =>
      simp only [toD, Option.map_eq_some_iff] at e
      obtain ⟨ds, e1, rfl⟩ := e
      exact .tup h.t (toDs_ok l e1)
  | .lst xs, _, _, h, e => by
    cases h with
    | lst f h l =>
      simp only [toD, Option.map_eq_some_iff] at e
      obtain ⟨ds, e1, rfl⟩ := e
      exact .lst (.of h) (toDs_ok l e1)
  | .rol xs, _, _, h, e => by
    cases h with
    | rol f h l =>
      simp only [toD, Option.map_eq_some_iff] at e
      obtain ⟨ds, e1, rfl⟩ := e
      exact .lst (.inl (.inr ⟨_, h⟩)) (toDs_ok l e1)
    | rolK h h2 l =>
      simp only [toD, Option.map_eq_some_iff] at e
      obtain ⟨ds, e1, rfl⟩ := e
      exact .lst (h H) (toDs_ok l e1)
theorem toDs_ok : ∀ {xs : List PV} {vs : List V} {ds : List PyData}, RVL K g H xs vs → toDs xs = some ds → DpAll K H vs ds
  | [], _, _, h, e => by cases h; cases e; exact .nil
  | x :: xs, _, _, h, e => by
    cases h with
    | cons h l =>
      simp only [toDs] at e
      split at e
      · rename_i d ds e1 e2
        cases e
        exact .cons (toD_ok h e1) (toDs_ok l e2)
      · cases e
end
theorem toDS_ok (s : StOk K g H st) {x : PV} {v : V} {d : PyData} (r : RV K g H x v) (e : toDS st x = some d) : Dp K H v d := by
  cases r with
  | ref hk =>
    rename_i k
    simp only [toDS] at e
    split at e
    · rename_i xs q
      simp only [Option.map_eq_some_iff] at e
      obtain ⟨ds, e1, rfl⟩ := e
      obtain ⟨vs, h, l⟩ := s.at_ k _ q
      exact .lst (.of h) (toDs_ok l e1)
    · cases e
  | non => exact toD_ok (K := K) (g := g) (H := H) .non e
  | bl b => exact toD_ok (K := K) (g := g) (H := H) (.bl b) e
  | int b => exact toD_ok (K := K) (g := g) (H := H) (.int b) e
  | str b => exact toD_ok (K := K) (g := g) (H := H) (.str b) e
  | tup h l => exact toD_ok (.tup h l) e
  | lst f h l => exact toD_ok (.lst f h l) e
  | rol f h l => exact toD_ok (.rol f h l) e
  | rolK f h l => exact toD_ok (.rolK f h l) e
  | dct f h l => cases e
  | raw v => cases e
  | wtp h l => cases e
  | err f h => cases e
end
/-- .. lists of the store, deeper down -/
def mapD {α β : Type} (f : α → Option β) : List α → Option (List β)
  | [] => some []
  | x :: xs => match f x, mapD f xs with
    | some y, some ys => some (y :: ys)
    | _, _ => none
def toDF (st : Sto) : Nat → PV → Option PyData
  | 0, x => toDS st x
  | n + 1, x => match x with
    | .tup xs => (mapD (toDF st n) xs).map .tuple
    | .lst xs => (mapD (toDF st n) xs).map .list
    | x => toDS st x
section
variable {K : PySem.W.Frag} {g : G} {H : Hp} {st : Sto}
theorem mapD_ok {f : PV → Option PyData} (hf : ∀ {x : PV} {v : V} {d : PyData}, RV K g H x v → f x = some d → Dp K H v d) : ∀ {xs : List PV} {vs : List V} {ds : List PyData}, RVL K g H xs vs → mapD f xs = some ds → DpAll K H vs ds
  | _, _, _, .nil, e => by cases e; exact .nil
  | _, _, _, .cons r l, e => by
    simp only [mapD] at e
    split at e
    · rename_i d ds e1 e2
      cases e
      exact .cons (hf r e1) (mapD_ok hf l e2)
    · cases e
theorem toDF_ok (s : StOk K g H st) : ∀ (n : Nat) {x : PV} {v : V} {d : PyData}, RV K g H x v → toDF st n x = some d → Dp K H v d
  | 0, x, v, d, r, e => toDS_ok s r e
  | n + 1, x, v, d, r, e => by
    unfold toDF at e
    split at e
    · obtain ⟨ds, e1, rfl⟩ := Option.map_eq_some_iff.mp e
      cases r with
      | tup h l => exact .tup h.t (mapD_ok (fun r e => toDF_ok s n r e) l e1)
    · obtain ⟨ds, e1, rfl⟩ := Option.map_eq_some_iff.mp e
      cases r with
      | lst f h l => exact .lst (.of h) (mapD_ok (fun r e => toDF_ok s n r e) l e1)
    · exact toDS_ok s r e
end

/-! ### what an operator does, by trees -/
abbrev Se2 := PV → PV → Sto → Res PV
abbrev Se1 := PV → Sto → Res PV
abbrev SeN := List PV → Sto → Res PV
section
variable (T : String → Value) (K : PySem.W.Frag) (E : XK)
def S2 (r : R2) (f : Se2) : Prop := ∀ g H st x y v u Q, StOk K g H st → RV K g H x v → RV K g H y u → okR T K (rV K) g H (f x y st) Q E → r v u H Q
def S1 (r : V → Hp → VK → Prop) (f : Se1) : Prop := ∀ g H st x v Q, StOk K g H st → RV K g H x v → okR T K (rV K) g H (f x st) Q E → r v H Q
def SN (r : List V → Hp → VK → Prop) (f : SeN) : Prop := ∀ g H st xs vs Q, StOk K g H st → RVL K g H xs vs → okR T K (rV K) g H (f xs st) Q E → r vs H Q
end
section
variable {T : String → Value} {K : PySem.W.Frag} {E : XK} {g : G} {H : Hp} {st : Sto} {Q : VK}
/-- a value that needs nothing new -/
theorem give {x : PV} {v : V} (s : StOk K g H st) (r : RV K g H x v) (h : okR T K (rV K) g H (.ok x st) Q E) : Q v H := okR.fin h s r
/-- a new tuple -/
theorem giveT {xs : List PV} {vs : List V} (s : StOk K g H st) (r : RVL K g H xs vs) (h : okR T K (rV K) g H (.ok (.tup xs) st) Q E) : NewT vs H Q := fun p o od hp =>
  okR.finE h (ext_new s hp) (st_new s hp) (.tup (.inl ⟨o, od, upd_same⟩) (r.mono (ext_new s hp)))
/-- a new list of the program -/
theorem giveF {xs : List PV} {vs : List V} (s : StOk K g H st) (r : RVL K g H xs vs) (h : okR T K (rV K) g H (.ok (.lst xs) st) Q E) : ∀ p, H p = none → Q (.ref p) (upd H p (.lst vs)) := fun p hp =>
  okR.finE h (ext_frz s hp) (st_frz s hp) (.lst (.inr rfl) upd_same (r.mono (ext_frz s hp)))
/-- a new list of the store -/
theorem giveM {xs : List PV} {vs : List V} (s : StOk K g H st) (r : RVL K g H xs vs) (h : okR T K (rV K) g H (.ok (.ref st.length) (st ++ [.lst xs])) Q E) : ∀ p, H p = none → Q (.ref p) (upd H p (.lst vs)) := fun p hp => by
  have x : Ext g H (g.put p) (upd H p (.lst vs)) := ext_put s hp
  refine okR.finE h x (st_put s hp ⟨vs, upd_same, r.mono x⟩) ?_
  have e : RV K (g.put p) (upd H p (.lst vs)) (.ref g.n) (.ref ((g.put p).f g.n)) := .ref (Nat.lt_succ_self g.n)
  rw [G.put_new, s.len] at e
  exact e
end
end Sim

set_option Elab.async false
set_option linter.all false
set_option maxRecDepth 100000
set_option maxHeartbeats 4000000
namespace Sim
open PySem PySem.Spec PyProof.Rows L2
variable [Tb] [Lm]

/-! ### expressions -/
def mVar (i : Nat) : M := fun env st => match env[i]? with
  | some (some x) => .ok x st
  | _ => .bad
def mC (x : PV) : M := fun _ st => .ok x st
def mBin (f : Se2) (a b : M) : M := fun env st => (a env st).bind fun x s1 => (b env s1).bind fun y s2 => f x y s2
def mUn (f : Se1) (a : M) : M := fun env st => (a env st).bind fun x s1 => f x s1
def mNil : ML := fun _ st => .ok [] st
def mCons (a : M) (r : ML) : ML := fun env st => (a env st).bind fun x s1 => (r env s1).bind fun xs s2 => .ok (x :: xs) s2
def mApp (f : SeN) (as : ML) : M := fun env st => (as env st).bind fun xs s1 => f xs s1
def fitL {α : Type} (xs : List α) : Bool := decide (xs.length ≤ 16777216)
theorem fitL_ok {α : Type} {xs : List α} (h : fitL xs = true) : xs.length ≤ sizeLine := by
  rw [sizeLine_eq]
  exact of_decide_eq_true h
def sTup : SeN := fun xs st => if fitL xs then .ok (.tup xs) st else .bad
/-- a list that is never changed; one of the store -/
def sLstF : SeN := fun xs st => if fitL xs then .ok (.lst xs) st else .bad
def sLstM : SeN := fun xs st => if fitL xs then .ok (.ref st.length) (st ++ [.lst xs]) else .bad
/-- a list of the store is given up: never changed again -/
def sFrz : Se1 := fun x st => match x with
  | .ref k => match st[k]? with
    | some (.lst xs) => .ok (.lst xs) (st.set k .dead)
    | _ => .bad
  | _ => .bad
def mAnd (a b : M) : M := fun env st => (a env st).bind fun x s1 => match x with
  | .bl true => b env s1
  | .bl false => .ok (.bl false) s1
  | _ => .bad
def mOr (a b : M) : M := fun env st => (a env st).bind fun x s1 => match x with
  | .bl true => .ok (.bl true) s1
  | .bl false => b env s1
  | _ => .bad
def mNot (a : M) : M := fun env st => (a env st).bind fun x s1 => match x with
  | .bl b => .ok (.bl (!b)) s1
  | _ => .bad
def mIf (c : MB) (a b : M) : M := fun env st => (c env st).bind fun x s1 => if x = true then a env s1 else b env s1
def mChain (f f' : Se2) (a b c : M) : M := fun env st => (a env st).bind fun x s1 => (b env s1).bind fun y s2 => (f x y s2).bind fun z s3 => match z with
  | .bl true => (c env s3).bind fun w s4 => f' y w s4
  | .bl false => .ok (.bl false) s3
  | _ => .bad
/-! tests -/
def bVal (a : M) : MB := fun env st => (a env st).bind fun x s1 => match x with
  | .bl b => .ok b s1
  | _ => .bad
def bNot (a : MB) : MB := fun env st => (a env st).bind fun b s1 => .ok (!b) s1
def bAnd (a b : MB) : MB := fun env st => (a env st).bind fun x s1 => if x = true then b env s1 else .ok false s1
def bOr (a b : MB) : MB := fun env st => (a env st).bind fun x s1 => if x = true then .ok true s1 else b env s1

section
variable {X : Cx} {T : String → Value} {E : XK} {a b c : Expr} {es rest : List Expr} {ma mb mc : M} {ms : ML} {ba bb : MB} {pos : Pos}
abbrev EX (X : Cx) (T : String → Value) (E : XK) (e : Expr) (m : M) : Prop := PE X e (TV T X.K E m)
abbrev TX (X : Cx) (T : String → Value) (E : XK) (e : Expr) (m : MB) : Prop := PT X e (TB T X.K E m)
abbrev WX (X : Cx) (T : String → Value) (E : XK) (e : Expr) (m : MB) : Prop := PW X e (TB T X.K E m)
abbrev AX (X : Cx) (T : String → Value) (E : XK) (es : List Expr) (m : ML) : Prop := PA X es (TL T X.K E m)

theorem x_var (i : Nat) {x : Str} (hN : X.N[i]? = some x) (hv : Vis X.env.scope x) (hd : (x == ("__debug__" : Str)) = false := by decide) (hcd : (x == ("__classdict__" : Str)) = false := by decide) : EX X T E (.Name x pos) (mVar i) := by
  refine pe_imp (pe_var (i := i) hN hv hd hcd) fun σ H Q h => ?_
  obtain ⟨g, st, env, s, e, h⟩ := h
  simp only [mVar] at h
  split at h
  · rename_i x q
    obtain ⟨v, h1, h2⟩ := e.at_ i x q
    exact ⟨v, h1, okR.fin h s h2⟩
  · exact h.elim
theorem x_C {e : Expr} {v : V} {x : PV} (h : PE X e (tC v)) (r : ∀ g H, RV X.K g H x v) : EX X T E e (mC x) :=
  pe_imp h fun σ H Q ⟨g, st, env, s, e, h⟩ => okR.fin h s (r g H)
theorem x_int {i : Int} {j : Nat} : EX X T E (.Constant (.int i) j pos) (mC (.int i)) := x_C pe_int fun _ _ => .int i
theorem x_bl {b : Bool} {j : Nat} : EX X T E (.Constant (.bool b) j pos) (mC (.bl b)) := x_C pe_bl fun _ _ => .bl b
theorem x_non {j : Nat} : EX X T E (.Constant .none j pos) (mC .non) := x_C pe_non fun _ _ => .non
theorem x_str {x : Str} {j : Nat} : EX X T E (.Constant (.str x) j pos) (mC (.str x)) := x_C pe_str fun _ _ => .str x
theorem x_bin {op : Operator} {r : R2} {f : Se2} (ho : OpR X (binaryOp op) r) (hs : S2 T X.K E r f) (ha : EX X T E a ma) (hb : EX X T E b mb) : EX X T E (.BinOp a op b pos) (mBin f ma mb) :=
  pe_imp (pe_op ho ha hb) fun σ H Q ⟨g, st, env, s, e, h⟩ => tv_of s e h fun g1 H1 st1 x v e1 s1 en1 r1 h1 => tv_of s1 en1 h1 fun g2 H2 st2 y u e2 s2 en2 r2 h2 => hs g2 H2 st2 x y v u Q s2 (r1.mono e2) r2 h2
theorem x_cmp {op : CmpOp} {r : R2} {f : Se2} (ho : OpR X (compareOp op) r) (hs : S2 T X.K E r f) (ha : EX X T E a ma) (hb : EX X T E b mb) (hm : behindInMarks op b = false) : EX X T E (.Compare a [op] [b] pos) (mBin f ma mb) :=
  pe_imp (pe_cmpR ho ha hb hm) fun σ H Q ⟨g, st, env, s, e, h⟩ => tv_of s e h fun g1 H1 st1 x v e1 s1 en1 r1 h1 => tv_of s1 en1 h1 fun g2 H2 st2 y u e2 s2 en2 r2 h2 => hs g2 H2 st2 x y v u Q s2 (r1.mono e2) r2 h2
theorem x_ix {r : R2} {f : Se2} (ho : IxR X r) (hs : S2 T X.K E r f) (ha : EX X T E a ma) (hb : EX X T E b mb) (hx : PlainIx b) : EX X T E (.Subscript a b pos) (mBin f ma mb) :=
  pe_imp (pe_ix ho ha hb hx) fun σ H Q ⟨g, st, env, s, e, h⟩ => tv_of s e h fun g1 H1 st1 x v e1 s1 en1 r1 h1 => tv_of s1 en1 h1 fun g2 H2 st2 y u e2 s2 en2 r2 h2 => hs g2 H2 st2 x y v u Q s2 (r1.mono e2) r2 h2
theorem x_un {op : UnaryOp} {r : V → Hp → VK → Prop} {f : Se1} (ho : UnR X (unaryOp op) r) (hs : S1 T X.K E r f) (ha : EX X T E a ma) : EX X T E (.UnaryOp op a pos) (mUn f ma) :=
  pe_imp (pe_un ho ha) fun σ H Q ⟨g, st, env, s, e, h⟩ => tv_of s e h fun g1 H1 st1 x v e1 s1 en1 r1 h1 => hs g1 H1 st1 x v Q s1 r1 h1
theorem x_chain {op op' : CmpOp} {r r' : R2} {f f' : Se2} (ho : OpR X (compareOp op) r) (hs : S2 T X.K E r f) (ho' : OpR X (compareOp op') r') (hs' : S2 T X.K E r' f') (ha : EX X T E a ma) (hb : EX X T E b mb) (hc : EX X T E c mc)
    (hm : lastMarks [op, op'] [b, c] = false := by with_unfolding_all rfl) : EX X T E (.Compare a [op, op'] [b, c] pos) (mChain f f' ma mb mc) :=
  pe_imp (pe_chain ho ho' ha hb hc hm) fun σ H Q ⟨g, st, env, s, e, h⟩ => tv_of s e h fun g1 H1 st1 x v e1 s1 en1 r1 h1 => tv_of s1 en1 h1 fun g2 H2 st2 y u e2 s2 en2 r2 h2 => by
    refine hs g2 H2 st2 x y v u _ s2 (r1.mono e2) r2 (h2.step.imp fun z H3 ⟨g3, st3, zz, e3, s3, r3, h3⟩ => ?_)
    cases zz with
    | bl k =>
      cases r3
      refine ⟨k, rfl, ?_⟩
      cases k with
      | true =>
        rw [if_pos rfl]
        exact tv_of s3 (en2.mono e3) h3 fun g4 H4 st4 w w' e4 s4 en4 r4 h4 => hs' g4 H4 st4 y w u w' Q s4 (r2.mono (e3.trans e4)) r4 h4
      | false =>
        rw [if_neg Bool.false_ne_true]
        exact okR.fin h3 s3 (.bl false)
    | _ => exact h3.elim
theorem x_nil : AX X T E [] mNil := pa_imp pa_nil fun σ H Q ⟨g, st, env, s, e, h⟩ => okR.fin h s .nil
theorem x_cons {e : Expr} {es : List Expr} {m : M} {ms : ML} (ha : EX X T E e m) (hr : AX X T E es ms) (hs : starEach (e :: es) X.env = (false, eval e X.env) :: starEach es X.env := by rfl) : AX X T E (e :: es) (mCons m ms) :=
  pa_imp (pa_cons ha hr hs) fun σ H Q ⟨g, st, env, s, e, h⟩ => tv_of s e h fun g1 H1 st1 x v e1 s1 en1 r1 h1 => tl_of s1 en1 h1 fun g2 H2 st2 xs vs e2 s2 en2 r2 h2 => okR.fin h2 s2 (.cons (r1.mono e2) r2)
theorem x_tup {k : Nat} (h : AX X T E es ms) : EX X T E (.Tuple es k pos) (mApp sTup ms) :=
  pe_imp (pe_tupN h) fun σ H Q ⟨g, st, env, s, e, h⟩ => tl_of s e h fun g1 H1 st1 xs vs e1 s1 en1 r1 h1 => by
    simp only [sTup] at h1
    split at h1
    · rename_i hf
      exact ⟨by rw [← r1.length]; exact fitL_ok hf, giveT s1 r1 h1⟩
    · exact h1.elim
theorem x_lstF (h : AX X T E es ms) : EX X T E (.List es pos) (mApp sLstF ms) :=
  pe_imp (pe_lst h) fun σ H Q ⟨g, st, env, s, e, h⟩ => tl_of s e h fun g1 H1 st1 xs vs e1 s1 en1 r1 h1 => by
    simp only [sLstF] at h1
    split at h1
    · rename_i hf
      exact ⟨by rw [← r1.length]; exact fitL_ok hf, giveF s1 r1 h1⟩
    · exact h1.elim
theorem x_lstM (h : AX X T E es ms) : EX X T E (.List es pos) (mApp sLstM ms) :=
  pe_imp (pe_lst h) fun σ H Q ⟨g, st, env, s, e, h⟩ => tl_of s e h fun g1 H1 st1 xs vs e1 s1 en1 r1 h1 => by
    simp only [sLstM] at h1
    split at h1
    · rename_i hf
      exact ⟨by rw [← r1.length]; exact fitL_ok hf, giveM s1 r1 h1⟩
    · exact h1.elim
/-- an expression's list of the store is given up -/
theorem x_frz {e : Expr} {m : M} (ha : EX X T E e m) : EX X T E e (mUn sFrz m) :=
  pe_imp ha fun σ H Q ⟨g, st, env, s, en, h⟩ => tv_of s en h fun g1 H1 st1 x v e1 s1 en1 r1 h1 => by
    cases x with
    | ref k =>
      simp only [sFrz] at h1
      split at h1
      · rename_i xs q
        cases r1 with
        | ref hk =>
          obtain ⟨vs, hh, l⟩ := s1.at_ k _ q
          have x := ext_drop s1 q
          exact okR.finE h1 x (st_drop s1 q) (.lst (.inr rfl) hh (l.mono x))
      · exact h1.elim
    | _ => exact h1.elim
theorem x_one {op : BoolOp} (h : EX X T E a ma) : EX X T E (.BoolOp op [a] pos) ma := pe_one h
theorem x_and (ha : EX X T E a ma) (hb : EX X T E (.BoolOp .And (b :: rest) pos) mb) : EX X T E (.BoolOp .And (a :: b :: rest) pos) (mAnd ma mb) :=
  pe_imp (pe_and ha hb) fun σ H Q ⟨g, st, env, s, e, h⟩ => tv_of s e h fun g1 H1 st1 x v e1 s1 en1 r1 h1 => by
    cases x with
    | bl k =>
      cases r1
      refine ⟨k, rfl, ?_⟩
      cases k with
      | true => rw [if_pos rfl]; exact ⟨g1, st1, env, s1, en1, h1⟩
      | false => rw [if_neg Bool.false_ne_true]; exact okR.fin h1 s1 (.bl false)
    | _ => exact h1.elim
theorem x_or (ha : EX X T E a ma) (hb : EX X T E (.BoolOp .Or (b :: rest) pos) mb) : EX X T E (.BoolOp .Or (a :: b :: rest) pos) (mOr ma mb) :=
  pe_imp (pe_or ha hb) fun σ H Q ⟨g, st, env, s, e, h⟩ => tv_of s e h fun g1 H1 st1 x v e1 s1 en1 r1 h1 => by
    cases x with
    | bl k =>
      cases r1
      refine ⟨k, rfl, ?_⟩
      cases k with
      | true => rw [if_pos rfl]; exact okR.fin h1 s1 (.bl true)
      | false => rw [if_neg Bool.false_ne_true]; exact ⟨g1, st1, env, s1, en1, h1⟩
    | _ => exact h1.elim
theorem x_not (ha : EX X T E a ma) : EX X T E (.UnaryOp .Not a pos) (mNot ma) :=
  pe_imp (pe_not ha) fun σ H Q ⟨g, st, env, s, e, h⟩ => tv_of s e h fun g1 H1 st1 x v e1 s1 en1 r1 h1 => by
    cases x with
    | bl k => cases r1; exact ⟨k, rfl, okR.fin h1 s1 (.bl _)⟩
    | _ => exact h1.elim
theorem x_if (hc : TX X T E c ba) (ha : EX X T E a ma) (hb : EX X T E b mb) : EX X T E (.IfExp c a b pos) (mIf ba ma mb) :=
  pe_imp (pe_ifExp hc ha hb) fun σ H Q ⟨g, st, env, s, e, h⟩ => tb_of s e h fun g1 H1 st1 k e1 s1 en1 h1 => by
    cases k with
    | true => rw [if_pos rfl] at h1 ⊢; exact ⟨g1, st1, env, s1, en1, h1⟩
    | false => rw [if_neg Bool.false_ne_true] at h1 ⊢; exact ⟨g1, st1, env, s1, en1, h1⟩

/-! tests -/
theorem t_val (ha : EX X T E a ma) (he : ∀ whole, isTrue a X.env whole = (do let v ← whole; standAt a.pos; holding [v] (truthy v)) := by intro _; rfl) : TX X T E a (bVal ma) :=
  pt_imp (pt_val ha he) fun σ H Q ⟨g, st, env, s, e, h⟩ => tv_of s e h fun g1 H1 st1 x v e1 s1 en1 r1 h1 => by
    cases x with
    | bl k => cases r1; exact ⟨k, rfl, okR.fin h1 s1 rfl⟩
    | _ => exact h1.elim
theorem t_cmp {op : CmpOp} {r : R2} {f : Se2} (ho : OpR X (compareOp op) r) (hs : S2 T X.K E r f) (ha : EX X T E a ma) (hb : EX X T E b mb) (hm : behindInMarks op b = false) : TX X T E (.Compare a [op] [b] pos) (bVal (mBin f ma mb)) := by
  refine pt_imp (pt_cmpR ho ha hb hm) fun σ H Q ⟨g, st, env, s, e, h⟩ => ?_
  have h : okR T X.K rB g H (((mBin f ma mb) env st).bind fun x s1 => match x with
    | .bl b => .ok b s1
    | _ => .bad) Q E := h
  have h' : okR T X.K rB g H ((ma env st).bind fun x s1 => ((mb env s1).bind fun y s2 => f x y s2).bind fun z s3 => match z with
    | .bl b => .ok b s3
    | _ => .bad) Q E := by
    simp only [mBin] at h
    cases q : ma env st with
    | ok x s1 => rw [q] at h; exact h
    | exc n fs s1 => rw [q] at h; exact h
    | bad => rw [q] at h; exact h
  refine tv_of s e h' fun g1 H1 st1 x v e1 s1 en1 r1 h1 => ?_
  have h1' : okR T X.K rB g1 H1 ((mb env st1).bind fun y s2 => (f x y s2).bind fun z s3 => match z with
    | .bl b => .ok b s3
    | _ => .bad) Q E := by
    cases q : mb env st1 with
    | ok x s1 => rw [q] at h1; exact h1
    | exc n fs s1 => rw [q] at h1; exact h1
    | bad => rw [q] at h1; exact h1
  refine tv_of s1 en1 h1' fun g2 H2 st2 y u e2 s2 en2 r2 h2 => ?_
  refine hs g2 H2 st2 x y v u _ s2 (r1.mono e2) r2 (h2.step.imp fun z H3 ⟨g3, st3, zz, e3, s3, r3, h3⟩ => ?_)
  cases zz with
  | bl k => cases r3; exact ⟨k, rfl, okR.fin h3 s3 rfl⟩
  | _ => exact h3.elim
theorem t_chain {op op' : CmpOp} {r r' : R2} {f f' : Se2} (ho : OpR X (compareOp op) r) (hs : S2 T X.K E r f) (ho' : OpR X (compareOp op') r') (hs' : S2 T X.K E r' f') (ha : EX X T E a ma) (hb : EX X T E b mb) (hc : EX X T E c mc)
    (hm : lastMarks [op, op'] [b, c] = false := by with_unfolding_all rfl) : TX X T E (.Compare a [op, op'] [b, c] pos) (bVal (mChain f f' ma mb mc)) := by
  refine pt_imp (pt_chain ho ho' ha hb hc hm) fun σ H Q ⟨g, st, env, s, e, h⟩ => ?_
  have hx : TV T X.K E (mChain f f' ma mb mc) σ H fun x H' => ∃ k, x = .bl k ∧ Q k H' := tv_of s e h fun g1 H1 st1 x v e1 s1 en1 r1 h1 => by
    cases x with
    | bl k => cases r1; exact ⟨k, rfl, okR.fin h1 s1 rfl⟩
    | _ => exact h1.elim
  obtain ⟨g, st, env, s, e, h⟩ := hx
  exact tv_of s e h fun g1 H1 st1 x v e1 s1 en1 r1 h1 => tv_of s1 en1 h1 fun g2 H2 st2 y u e2 s2 en2 r2 h2 => by
    refine hs g2 H2 st2 x y v u _ s2 (r1.mono e2) r2 (h2.step.imp fun z H3 ⟨g3, st3, zz, e3, s3, r3, h3⟩ => ?_)
    cases zz with
    | bl k =>
      cases r3
      refine ⟨k, rfl, ?_⟩
      cases k with
      | true =>
        rw [if_pos rfl]
        exact tv_of s3 (en2.mono e3) h3 fun g4 H4 st4 w w' e4 s4 en4 r4 h4 => hs' g4 H4 st4 y w u w' _ s4 (r2.mono (e3.trans e4)) r4 h4
      | false =>
        rw [if_neg Bool.false_ne_true]
        exact okR.fin h3 s3 (.bl false)
    | _ => exact h3.elim
theorem t_not (ha : TX X T E a ba) : TX X T E (.UnaryOp .Not a pos) (bNot ba) :=
  pt_imp (pt_not ha) fun σ H Q ⟨g, st, env, s, e, h⟩ => tb_of s e h fun g1 H1 st1 k e1 s1 en1 h1 => okR.fin h1 s1 rfl
theorem t_and1 (ha : TX X T E a ba) : WX X T E (.BoolOp .And [a] pos) ba := pw_and1 ha
theorem t_or1 (ha : TX X T E a ba) : WX X T E (.BoolOp .Or [a] pos) ba := pw_or1 ha
theorem t_and (ha : TX X T E a ba) (hb : WX X T E (.BoolOp .And (b :: rest) pos) bb) : WX X T E (.BoolOp .And (a :: b :: rest) pos) (bAnd ba bb) :=
  pw_imp (pw_and ha hb) fun σ H Q ⟨g, st, env, s, e, h⟩ => tb_of s e h fun g1 H1 st1 k e1 s1 en1 h1 => by
    cases k with
    | true => rw [if_pos rfl] at h1 ⊢; exact ⟨g1, st1, env, s1, en1, h1⟩
    | false => rw [if_neg Bool.false_ne_true] at h1 ⊢; exact okR.fin h1 s1 rfl
theorem t_or (ha : TX X T E a ba) (hb : WX X T E (.BoolOp .Or (b :: rest) pos) bb) : WX X T E (.BoolOp .Or (a :: b :: rest) pos) (bOr ba bb) :=
  pw_imp (pw_or ha hb) fun σ H Q ⟨g, st, env, s, e, h⟩ => tb_of s e h fun g1 H1 st1 k e1 s1 en1 h1 => by
    cases k with
    | true => rw [if_pos rfl] at h1 ⊢; exact okR.fin h1 s1 rfl
    | false => rw [if_neg Bool.false_ne_true] at h1 ⊢; exact ⟨g1, st1, env, s1, en1, h1⟩
end
end Sim

set_option Elab.async false
set_option linter.all false
set_option maxRecDepth 100000
set_option maxHeartbeats 4000000
namespace Sim
open PySem PySem.Spec PyProof.Rows L2 PySem.SeqAt PySem.MeetsSeq
open AutoSeq1 (wpAny_loadPart')
theorem str_eq_declines_dict (b : Str) (u : Tok) (l : Addr) (o : Obj) (ho : o.cls = .type "dict") (hd : ∀ v, o.data ≠ .prim v) :
    Meets (Builtin.«str.__eq__» ⟨[.str b u, .ref l], []⟩) (fun _ R s => s.heap.get? l = some o ∧ R (.ok (.ret .notImplemented)) s) :=
  .of_wp fun prog w A R s h => by
    obtain ⟨hp, g, d, tk, os⟩ := s
    obtain ⟨hl, h⟩ := h
    obtain ⟨c, dd, da, sl⟩ := o
    cases ho
    cases da with
    | prim v => exact absurd rfl (hd v)
    | _ =>
      wp_walk using wpAny_loadPart' hl, wpAny_load hl
      exact ⟨_, rfl, h⟩
section
variable {X : Cx}
theorem dict_declines {s : Shared} {a : Addr} {z : Str} {t : Tok} {Q' : Value → Shared → Prop} (da : s.TypeIs (.ref a) "dict") (hq : Q' .notImplemented s) {prog : Program} {w : World} {A : Around} {E : Value → Shared → Prop} :
    wpAny (model prog w) A (call (.builtin "dict.__eq__") [.ref a, .str z t]) Q' E s := by
  refine wpAny_call_entry PySem.F.slot_dict_eq da PySem.F.entry_dict_eq ?_ (PySem.F.args_dict_eq_2 _ _)
  show wpAny _ _ (Builtin.Dict.dictSlotArgs "__eq__" ⟨[.ref a, .str z t], []⟩ >>= _) _ _ s
  refine wpAny_bind ?_
  unfold Builtin.Dict.dictSlotArgs
  refine wpAny_bind (wpAny_notOrdered_dict da ?_)
  refine wpAny_pure ?_
  refine wpAny_bind (wpAny_isInstance (T := "str") (typeIs_str s z t) PySem.F.sub_str_dict ?_)
  rw [if_pos (show (!false) = true from rfl)]
  exact wpAny_bind (wpAny_rule (wpAny_pure ⟨_, rfl, hq⟩))
theorem op_eq_dS (hu : X.A.units < cLine) : OpR X (compareOp .Eq) (fun x y H Q => ∃ a kvs z, ((x = .ref a ∧ y = .str z) ∨ (x = .str z ∧ y = .ref a)) ∧ H a = some (.dK kvs) ∧ Q (.bl false) H) := by
  intro pins s σ H x y v u Q I rx ry h
  obtain ⟨a, kvs, z, hxy, ea, q⟩ := h
  obtain ⟨_, ya, va, ra, da⟩ := (show ObjOk X.prog X.w H s.heap a (.dK kvs) from I.hok a _ ea)
  obtain ⟨o, es, ep, ho, hex, hdt, _⟩ := id da
  have hd : ∀ v, o.data ≠ .prim v := fun v e => by rw [hdt] at e; cases e
  rcases hxy with ⟨rfl, rfl⟩ | ⟨rfl, rfl⟩
  · obtain rfl : v = Value.ref a := rx
    obtain ⟨t, rfl⟩ := ry
    show wpAny _ _ (richCompare .Eq _ _) _ _ _
    refine rc_eq_decline_or (k := false) da.typeIs (typeIs_str s z t) (by decide) F.sub_str_dict F.slot_dict_eq F.slot_str_eq_refl ?_ ?_ ?_ (.inr hu) (fin_bl I q rfl)
    · intro Q' hq; exact dict_declines da.typeIs hq
    · intro Q' hq; exact call_meets F.slot_str_eq_refl (typeIs_str s z t) F.entry_str_eq (F.args_str_eq_2 _ _) (str_eq_declines_dict z t a o hex.1 hd) ⟨ho, hq⟩
    · intro Q' hq; exact wpAny_pure hq
  · obtain rfl : u = Value.ref a := ry
    obtain ⟨t, rfl⟩ := rx
    show wpAny _ _ (richCompare .Eq _ _) _ _ _
    refine rc_eq_decline_or (k := false) (typeIs_str s z t) da.typeIs (by decide) F.sub_dict_str F.slot_str_eq F.slot_dict_eq_refl ?_ ?_ ?_ (.inr hu) (fin_bl I q rfl)
    · intro Q' hq; exact call_meets F.slot_str_eq (typeIs_str s z t) F.entry_str_eq (F.args_str_eq_2 _ _) (str_eq_declines_dict z t a o hex.1 hd) ⟨ho, hq⟩
    · intro Q' hq; exact dict_declines da.typeIs hq
    · intro Q' hq; exact wpAny_pure hq
end
end Sim

set_option Elab.async false
set_option linter.all false
set_option maxRecDepth 100000
set_option maxHeartbeats 4000000
namespace Sim
open PySem PySem.Spec PyProof.Rows L2
variable [Tb] [Lm]

/-! ### operators -/
def fitS (a b : Str) : Bool := decide (a.length + b.length ≤ 16777216)
def sAdd : Se2 := fun x y st => match x, y with
  | .int i, .int j => .ok (.int (i + j)) st
  | .str a, .str b => if fitS a b then .ok (.str (a ++ b)) st else .bad
  | .tup xs, .tup ys => if fitL (xs ++ ys) then .ok (.tup (xs ++ ys)) st else .bad
  | x, y => match asM st x, asM st y with
    | some xs, some ys => if fitL (xs ++ ys) then .ok (.lst (xs ++ ys)) st else .bad
    | _, _ => .bad
def sSub : Se2 := fun x y st => match x, y with
  | .int i, .int j => .ok (.int (i - j)) st
  | _, _ => .bad
def smallB (i : Int) : Bool := decide (i.natAbs.log2 < 500000)
def sMul : Se2 := fun x y st => match x, y with
  | .int i, .int j => if smallB i && smallB j then .ok (.int (i * j)) st else .bad
  | .tup xs, .int k => if decide (xs ≠ []) && decide (2 ≤ k) && decide (k ≤ 1000) && decide (xs.length ≤ 1000) then .ok (.tup (List.replicate k.toNat xs).flatten) st else .bad
  | x, .int k => match asM st x with
    | some xs => if decide (0 ≤ k) && decide (k < 100000) && decide (xs.length ≤ 100) then .ok (.lst (List.replicate k.toNat xs).flatten) st else .bad
    | none => .bad
  | _, _ => .bad
def sDiv : Se2 := fun x y st => match x, y with
  | .int i, .int j => if decide (0 < j) && decide (j.natAbs.log2 < 9000) then .ok (.int (i / j)) st else .bad
  | _, _ => .bad
def sMod : Se2 := fun x y st => match x, y with
  | .int i, .int j => if decide (0 < j) then .ok (.int (i % j)) st else .bad
  | _, _ => .bad
def sPow : Se2 := fun x y st => match x, y with
  | .int i, .int j => if decide (0 ≤ j) && decide (j ≤ 1000000) && decide (i.natAbs < 2 ^ 64) then .ok (.int (i ^ j.toNat)) st else .bad
  | _, _ => .bad
/-- == of what is not data's own: both of one flat kind -/
def flatEq : PV → PV → Option Bool
  | .int i, .int j => some (decide (i = j))
  | .str a, .str b => some (decide (a = b))
  | .bl a, .bl b => some (decide (a = b))
  | .int _, .str _ => some false
  | .str _, .int _ => some false
  | .non, .non => some true
  | .non, .int _ => some false
  | .int _, .non => some false
  | .non, .str _ => some false
  | .str _, .non => some false
  | _, _ => none
/-- a dict and a text -/
def dctStr : PV → PV → Bool
  | .dct _, .str _ => true
  | .str _, .dct _ => true
  | _, _ => false
abbrev rDS : R2 := fun x y H Q => ∃ a kvs z, ((x = .ref a ∧ y = .str z) ∨ (x = .str z ∧ y = .ref a)) ∧ H a = some (.dK kvs) ∧ Q (.bl false) H
def sEqn (neg : Bool) : Se2 := fun x y st => match flatEq x y with
  | some b => .ok (.bl (if neg then !b else b)) st
  | none => match toDS st x, toDS st y with
    | some d, some e => if SeqAt.shaped d && SeqAt.shaped e then .ok (.bl (if neg then !PyData.eqv d e else PyData.eqv d e)) st else .bad
    | _, _ => match toDF st 3 x, toDF st 3 y with
      | some d, some e => if SeqAt.shaped d && SeqAt.shaped e then .ok (.bl (if neg then !PyData.eqv d e else PyData.eqv d e)) st else .bad
      | _, _ => if !neg && dctStr x y then .ok (.bl false) st else .bad
abbrev sEq : Se2 := sEqn false
abbrev sNe : Se2 := sEqn true
/-- an order, of ints and of texts -/
def sOrd (p : Int → Int → Bool) (q : List Nat → List Nat → Bool) : Se2 := fun x y st => match x, y with
  | .int i, .int j => .ok (.bl (p i j)) st
  | .str a, .str b => .ok (.bl (q a.cps.toList b.cps.toList)) st
  | _, _ => .bad
abbrev sLt : Se2 := sOrd (fun i j => decide (i < j)) (fun a b => decide (a < b))
abbrev sLe : Se2 := sOrd (fun i j => decide (i ≤ j)) (fun a b => !decide (b < a))
abbrev sGt : Se2 := sOrd (fun i j => decide (j < i)) (fun a b => decide (b < a))
abbrev sGe : Se2 := sOrd (fun i j => decide (j ≤ i)) (fun a b => !decide (a < b))
/-- is, is not of None; of bools -/
def isNon : PV → Bool
  | .non => true
  | _ => false
def sIsn (neg : Bool) : Se2 := fun x y st => match x, y with
  | x, .non => match x with
    | .raw _ => .bad
    | x => .ok (.bl (if neg then !isNon x else isNon x)) st
  | .bl a, .bl b => .ok (.bl (if neg then !decide (a = b) else decide (a = b))) st
  | _, _ => .bad
/-- in, not in -/
def toKey : PV → Option Key
  | .int i => some (.inl i)
  | .str x => some (.inr x)
  | _ => none
def lookK (k : Key) : List (Key × PV) → Option PV
  | [] => none
  | (j, x) :: r => if j = k then some x else lookK k r
def sInn (neg : Bool) : Se2 := fun x y st => match y with
  | .str z => match x with
    | .str c => match c.cps.toList with
      | [n] => .ok (.bl (if neg then !decide (n ∈ z.cps.toList) else decide (n ∈ z.cps.toList))) st
      | _ => .bad
    | _ => .bad
  | .tup ys => match toDS st x, toDs ys with
    | some d, some ds => if SeqAt.shaped d && SeqAt.shaped (.tuple ds) then .ok (.bl (if neg then !ds.any fun z => PyData.eqv z d else ds.any fun z => PyData.eqv z d)) st else .bad
    | _, _ => .bad
  | y => match asD st y with
    | some kvs => match toKey x with
      | some k => .ok (.bl (if neg then !(lookK k kvs).isSome else (lookK k kvs).isSome)) st
      | none => .bad
    | none => match toDS st x, (asL st y).bind toDs with
      | some d, some ds => if SeqAt.shaped d && SeqAt.shaped (.list ds) then .ok (.bl (if neg then !ds.any fun z => PyData.eqv z d else ds.any fun z => PyData.eqv z d)) st else .bad
      | _, _ => .bad
/-- x[i] -/
def sIx : Se2 := fun x y st => match x with
  | .str z => match y with
    | .int i => match atI z.cps.toList i with
      | some c => if decide (z.length ≤ 16777216) then .ok (.str ⟨#[c]⟩) st else .bad
      | none => .bad
    | _ => .bad
  | .tup xs => match y with
    | .int i => match atI xs i with
      | some v => .ok v st
      | none => .bad
    | _ => .bad
  | x => match asD st x with
    | some kvs => match toKey y with
      | some k => match lookK k kvs with
        | some v => .ok v st
        | none => .bad
      | none => .bad
    | none => match asL st x with
      | some xs => match y with
        | .int i => match atI xs i with
          | some v => .ok v st
          | none => .bad
        | _ => .bad
      | none => .bad

section
variable {X : Cx} {T : String → Value} {E : XK}
abbrev rAdd4 (K : PySem.W.Frag) : R2 := fun x y H Q => ((rI0 fun i j => .int (i + j)) x y H Q ∨ (∃ i j, x = .str i ∧ y = .str j ∧ i.length + j.length ≤ sizeLine ∧ Q (.str (i ++ j)) H)) ∨ (rCat x y H Q ∨ rCatN K x y H Q)
theorem o_add : OpR X (binaryOp .Add) (rAdd4 X.K) := (op_add.or op_add_str).or (op_cat.or op_catN)
theorem s_cat {g : G} {H : Hp} {st : Sto} {x y : PV} {v u : V} {Q : VK} (s : StOk X.K g H st) (r1 : RV X.K g H x v) (r2 : RV X.K g H y u)
    (h : okR T X.K (rV X.K) g H (match asM st x, asM st y with | some xs, some ys => if fitL (xs ++ ys) then .ok (.lst (xs ++ ys)) st else .bad | _, _ => .bad) Q E) : rCat v u H Q := by
  split at h
  · rename_i xs ys e1 e2
    obtain ⟨a, vs, rfl, h1, l1⟩ := asM_ok s r1 e1
    obtain ⟨b, ws, rfl, h2, l2⟩ := asM_ok s r2 e2
    split at h
    · rename_i hf
      have := fitL_ok hf
      rw [List.length_append, l1.length, l2.length] at this
      exact ⟨a, b, vs, ws, rfl, rfl, h1, h2, this, giveF s (l1.append l2) h⟩
    · exact h.elim
  · exact h.elim
theorem s_add : S2 T X.K E (rAdd4 X.K) sAdd := by
  intro g H st x y v u Q s r1 r2 h
  unfold sAdd at h
  split at h
  · cases r1; cases r2; exact .inl (.inl ⟨_, _, rfl, rfl, okR.fin h s (.int _)⟩)
  · cases r1; cases r2
    split at h
    · rename_i hf
      exact .inl (.inr ⟨_, _, rfl, rfl, by rw [sizeLine_eq]; exact of_decide_eq_true hf, okR.fin h s (.str _)⟩)
    · exact h.elim
  · rename_i xs ys
    obtain ⟨a, vs, rfl, h1, l1⟩ := asT_ok r1 rfl
    obtain ⟨b, ws, rfl, h2, l2⟩ := asT_ok r2 rfl
    split at h
    · rename_i hf
      have := fitL_ok hf
      rw [List.length_append, l1.length, l2.length] at this
      refine .inr (.inr ⟨a, b, vs, ws, rfl, rfl, h1.t, h2.t, this, fun e => ?_, fun _ e => ?_, fun _ _ => giveT s (l1.append l2) h⟩)
      · subst e
        cases l1
        exact okR.fin h s (.tup h2 l2)
      · subst e
        cases l2
        rw [List.append_nil] at h
        exact okR.fin h s (.tup h1 l1)
    · exact h.elim
  · exact .inr (.inl (s_cat s r1 r2 h))
theorem s_sub : S2 T X.K E (rI0 fun i j => .int (i - j)) sSub := by
  intro g H st x y v u Q s r1 r2 h
  unfold sSub at h
  split at h
  · cases r1; cases r2; exact ⟨_, _, rfl, rfl, okR.fin h s (.int _)⟩
  · exact h.elim
abbrev rMul3 (K : PySem.W.Frag) : R2 := fun x y H Q => (rI CMulW fun i j => .int (i * j)) x y H Q ∨ (rRep x y H Q ∨ rRepN K x y H Q)
theorem o_mul : OpR X (binaryOp .Mult) (rMul3 X.K) := op_mulW.or (op_rep.or op_repN)
theorem s_mul : S2 T X.K E (rMul3 X.K) sMul := by
  intro g H st x y v u Q s r1 r2 h
  unfold sMul at h
  split at h
  · cases r1; cases r2
    split at h
    · rename_i hf
      rw [Bool.and_eq_true] at hf
      have a := of_decide_eq_true hf.1
      have b := of_decide_eq_true hf.2
      exact .inl ⟨_, _, rfl, rfl, Nat.add_lt_add a b, okR.fin h s (.int _)⟩
    · exact h.elim
  · obtain ⟨a, vs, rfl, h1, l1⟩ := asT_ok r1 rfl
    cases r2
    split at h
    · rename_i hf
      simp only [Bool.and_eq_true, decide_eq_true_eq] at hf
      obtain ⟨⟨⟨f1, f2⟩, f3⟩, f4⟩ := hf
      refine .inr (.inr ⟨a, _, vs, rfl, rfl, h1.t, fun e => ?_, f2, f3, by rw [← l1.length]; exact f4, giveT s (l1.rep _) h⟩)
      subst e
      cases l1
      exact f1 rfl
    · exact h.elim
  · split at h
    · rename_i xs e1
      obtain ⟨a, vs, rfl, h1, l1⟩ := asM_ok s r1 e1
      cases r2
      split at h
      · rename_i hf
        simp only [Bool.and_eq_true, decide_eq_true_eq] at hf
        obtain ⟨⟨f1, f2⟩, f3⟩ := hf
        refine .inr (.inl ⟨a, _, vs, rfl, rfl, h1, by omega, by omega, ?_, giveF s (l1.rep _) h⟩)
        rw [← l1.length, sizeLine_eq]
        exact Nat.le_trans (Nat.mul_le_mul f3 (show _ ≤ 100000 by omega)) (by decide)
      · exact h.elim
    · exact h.elim
  · exact h.elim
theorem s_div : S2 T X.K E (rI CDivW fun i j => .int (i / j)) sDiv := by
  intro g H st x y v u Q s r1 r2 h
  unfold sDiv at h
  split at h
  · cases r1; cases r2
    split at h
    · rename_i hf
      simp only [Bool.and_eq_true, decide_eq_true_eq] at hf
      exact ⟨_, _, rfl, rfl, hf, okR.fin h s (.int _)⟩
    · exact h.elim
  · exact h.elim
theorem s_mod : S2 T X.K E (rI (fun _ j => 0 < j) fun i j => .int (i % j)) sMod := by
  intro g H st x y v u Q s r1 r2 h
  unfold sMod at h
  split at h
  · cases r1; cases r2
    split at h
    · rename_i hf
      exact ⟨_, _, rfl, rfl, of_decide_eq_true hf, okR.fin h s (.int _)⟩
    · exact h.elim
  · exact h.elim
theorem s_pow : S2 T X.K E (rI CPow fun i j => .int (i ^ j.toNat)) sPow := by
  intro g H st x y v u Q s r1 r2 h
  unfold sPow at h
  split at h
  · cases r1; cases r2
    split at h
    · rename_i hf
      simp only [Bool.and_eq_true, decide_eq_true_eq] at hf
      exact ⟨_, _, rfl, rfl, ⟨hf.1.1, hf.1.2, hf.2⟩, okR.fin h s (.int _)⟩
    · exact h.elim
  · exact h.elim
theorem flatEq_ok {g : G} {H : Hp} {x y : PV} {v u : V} {b : Bool} (r1 : RV X.K g H x v) (r2 : RV X.K g H y u) (e : flatEq x y = some b) : scal v u = true ∧ decide (v = u) = b := by
  unfold flatEq at e
  split at e <;> first | (cases e; cases r1; cases r2; exact ⟨rfl, by simp⟩) | exact nomatch e
theorem s_eqn {neg : Bool} {g : G} {H : Hp} {st : Sto} {x y : PV} {v u : V} {Q : VK} (s : StOk X.K g H st) (r1 : RV X.K g H x v) (r2 : RV X.K g H y u) (h : okR T X.K (rV X.K) g H (sEqn neg x y st) Q E) :
    (scal v u = true ∧ Q (.bl (if neg then !decide (v = u) else decide (v = u))) H) ∨
    (∃ d e, Dp X.K H v d ∧ Dp X.K H u e ∧ SeqAt.shaped d = true ∧ SeqAt.shaped e = true ∧ Q (.bl (if neg then !PyData.eqv d e else PyData.eqv d e)) H) ∨ (neg = false ∧ rDS v u H Q) := by
  unfold sEqn at h
  split at h
  · rename_i b eb
    obtain ⟨q1, q2⟩ := flatEq_ok r1 r2 eb
    rw [← q2] at h
    exact .inl ⟨q1, okR.fin h s (.bl _)⟩
  split at h
  · rename_i d e e1 e2
    split at h
    · rename_i hf
      rw [Bool.and_eq_true] at hf
      exact .inr (.inl ⟨d, e, toDS_ok s r1 e1, toDS_ok s r2 e2, hf.1, hf.2, okR.fin h s (.bl _)⟩)
    · exact h.elim
  · split at h
    · rename_i d e e1 e2
      split at h
      · rename_i hf
        rw [Bool.and_eq_true] at hf
        exact .inr (.inl ⟨d, e, toDF_ok s _ r1 e1, toDF_ok s _ r2 e2, hf.1, hf.2, okR.fin h s (.bl _)⟩)
      · exact h.elim
    · split at h
      · rename_i hn
        simp only [Bool.and_eq_true, Bool.not_eq_true'] at hn
        refine .inr (.inr ⟨hn.1, ?_⟩)
        have hd := hn.2
        unfold dctStr at hd
        split at hd
        · cases r1 with
          | dct hf hh l =>
            cases r2
            exact ⟨_, _, _, .inl ⟨rfl, rfl⟩, hh, okR.fin h s (.bl _)⟩
        · cases r2 with
          | dct hf hh l =>
            cases r1
            exact ⟨_, _, _, .inr ⟨rfl, rfl⟩, hh, okR.fin h s (.bl _)⟩
        · cases hd
      · exact h.elim
abbrev rEq2 (K : PySem.W.Frag) : R2 := fun x y H Q => rEq x y H Q ∨ rEqD K x y H Q ∨ rDS x y H Q
abbrev rNe2 (K : PySem.W.Frag) : R2 := fun x y H Q => rNe x y H Q ∨ rNeD K x y H Q
theorem o_eq2 (hu : X.A.units + 64 < cLine) : OpR X (compareOp .Eq) (rEq2 X.K) := op_eq.or ((op_eqD hu).or (op_eq_dS (by omega)))
theorem o_ne2 (hu : X.A.units + 64 < cLine) : OpR X (compareOp .NotEq) (rNe2 X.K) := op_ne.or (op_neD hu)
theorem s_eq : S2 T X.K E (rEq2 X.K) sEq := fun _ _ _ _ _ _ _ _ s r1 r2 h => (s_eqn s r1 r2 h).imp id fun z => z.imp id fun z => z.2
theorem s_ne : S2 T X.K E (rNe2 X.K) sNe := fun _ _ _ _ _ _ _ _ s r1 r2 h => (s_eqn s r1 r2 h).imp id fun z => z.elim id fun z => nomatch z.1
abbrev rOrd (p : Int → Int → Bool) (q : List Nat → List Nat → Bool) : R2 := fun x y H Q => (rI0 fun i j => .bl (p i j)) x y H Q ∨ (∃ i j, x = .str i ∧ y = .str j ∧ Q (.bl (q i.cps.toList j.cps.toList)) H)
theorem s_ord {p : Int → Int → Bool} {q : List Nat → List Nat → Bool} : S2 T X.K E (rOrd p q) (sOrd p q) := by
  intro g H st x y v u Q s r1 r2 h
  unfold sOrd at h
  split at h
  · cases r1; cases r2; exact .inl ⟨_, _, rfl, rfl, okR.fin h s (.bl _)⟩
  · cases r1; cases r2; exact .inr ⟨_, _, rfl, rfl, okR.fin h s (.bl _)⟩
  · exact h.elim
theorem o_lt : OpR X (compareOp .Lt) (rOrd (fun i j => decide (i < j)) (fun a b => decide (a < b))) := op_lt.or op_lt_str
theorem o_le : OpR X (compareOp .LtE) (rOrd (fun i j => decide (i ≤ j)) (fun a b => !decide (b < a))) := op_le.or op_le_str
theorem o_gt : OpR X (compareOp .Gt) (rOrd (fun i j => decide (j < i)) (fun a b => decide (b < a))) := op_gt.or op_gt_str
theorem o_ge : OpR X (compareOp .GtE) (rOrd (fun i j => decide (j ≤ i)) (fun a b => !decide (a < b))) := op_ge.or op_ge_str
abbrev rIsn : R2 := fun x y H Q => (y = .non ∧ Q (.bl (decide (x = .non))) H) ∨ rIsB x y H Q
abbrev rNotn : R2 := fun x y H Q => (y = .non ∧ Q (.bl (!decide (x = .non))) H) ∨ rNotB x y H Q
theorem o_is : OpR X (compareOp .Is) rIsn := op_isN.or op_isBl
theorem o_isnot : OpR X (compareOp .IsNot) rNotn := op_notN.or op_notBl
theorem isNon_ok {K : PySem.W.Frag} {g : G} {H : Hp} {x : PV} {v : V} (r : RV K g H x v) (n : ∀ w, x ≠ .raw w) : decide (v = .non) = isNon x := by
  cases r with
  | raw v => exact absurd rfl (n v)
  | _ => rfl
theorem s_is : S2 T X.K E rIsn (sIsn false) := by
  intro g H st x y v u Q s r1 r2 h
  unfold sIsn at h
  split at h
  · cases r2
    split at h
    · exact h.elim
    · rename_i n
      exact .inl ⟨rfl, by rw [isNon_ok r1 n]; exact okR.fin h s (.bl _)⟩
  · cases r1; cases r2; exact .inr ⟨_, _, rfl, rfl, okR.fin h s (.bl _)⟩
  · exact h.elim
theorem s_isnot : S2 T X.K E rNotn (sIsn true) := by
  intro g H st x y v u Q s r1 r2 h
  unfold sIsn at h
  split at h
  · cases r2
    split at h
    · exact h.elim
    · rename_i n
      exact .inl ⟨rfl, by rw [isNon_ok r1 n]; exact okR.fin h s (.bl _)⟩
  · cases r1; cases r2; exact .inr ⟨_, _, rfl, rfl, okR.fin h s (.bl _)⟩
  · exact h.elim
end
end Sim

set_option Elab.async false
set_option linter.all false
set_option maxRecDepth 100000
set_option maxHeartbeats 4000000
namespace Sim
open PySem PySem.Spec PyProof.Rows L2 HT
variable [Tb] [Lm]
section
variable {prog : Program} {w : World} {A : Around} {E : Value → Shared → Prop} {s : Shared}
theorem slice_rev {sl : Addr} {vs : Value} {n : Nat} {Q : Int × Int × Nat → Shared → Prop} (hs : s.heap.IsSliceOf sl .none .none vs) (ps : IsPart vs (some (-1))) (h : Q ((n : Int) - 1, -1, n) s) : wpAny (model prog w) A (Builtin.Slice.sliceApplied (.ref sl) (pure (n : Int))) Q E s := by
  obtain ⟨os, hos, hcs, hds⟩ := id hs
  unfold Builtin.Slice.sliceApplied Builtin.Slice.sliceFields
  refine wpAny_bind (wpAny_bind (wpAny_field hos hds (x := .none) rfl (wpAny_bind (wpAny_field hos hds (x := .none) rfl (wpAny_bind (wpAny_field hos hds (x := vs) rfl (wpAny_pure ?_)))))))
  refine wpAny_bind (slicePart_ ps ?_)
  rw [if_neg (by decide)]
  refine wpAny_bind (slicePart_none (wpAny_bind (slicePart_none (wpAny_bind (wpAny_pure ?_)))))
  have e : Builtin.Slice.slicePlaces ((n : Int) - 1) (-1) (-1) = n := by
    unfold Builtin.Slice.slicePlaces
    simp only [show ¬ ((-1 : Int) > 0) by decide, if_false, show (- -1 : Int) = 1 by decide, Int.ediv_one]
    split <;> omega
  show wpAny _ _ (pure ((n : Int) - 1, (-1 : Int), Builtin.Slice.slicePlaces ((n : Int) - 1) (-1) (-1))) _ _ s
  rw [e]
  exact wpAny_pure h
theorem fm_congr {α β : Type} {f g : α → Option β} : ∀ {l : List α}, (∀ a ∈ l, f a = g a) → l.filterMap f = l.filterMap g
  | [], _ => rfl
  | a :: l, h => by rw [List.filterMap_cons, List.filterMap_cons, h a (List.mem_cons_self ..), fm_congr fun b m => h b (List.mem_cons_of_mem _ m)]
theorem pick_rev (xs : Array Value) : ((List.range xs.size).filterMap fun (m : Nat) => xs[((xs.size : Int) - 1 + (m : Int) * -1).toNat]?).toArray = xs.toList.reverse.toArray := by
  have e : (List.range xs.size).filterMap (fun (m : Nat) => xs[((xs.size : Int) - 1 + (m : Int) * -1).toNat]?) = ((List.range xs.size).map fun k => xs.size - 1 - k).filterMap (xs[·]?) := by
    rw [List.filterMap_map]
    refine fm_congr fun m hm => ?_
    have := List.mem_range.mp hm
    have q : ((xs.size : Int) - 1 + (m : Int) * -1).toNat = xs.size - 1 - m := by omega
    show xs[((xs.size : Int) - 1 + (m : Int) * -1).toNat]? = xs[xs.size - 1 - m]?
    rw [q]
  rw [e, PySem.W.krv_range, List.filterMap_reverse, PySem.W.krv_all]
theorem item_rev {t sl : Addr} {items : Array Value} {vs : Value} {Q : Value → Shared → Prop} (ht : IsTup s.heap t items) (hs : s.heap.IsSliceOf sl .none .none vs) (ps : IsPart vs (some (-1)))
    (h : Q (.ref s.heap.objs.size) { s with heap := s.heap.push { cls := .type "tuple", data := .seq items.toList.reverse.toArray } }) (hsz : items.size ≤ sizeLine) : wpAny (model prog w) A (getItem (.ref t) (.ref sl)) Q E s := by
  have fits : sizeOk (.seq items.toList.reverse.toArray) := by
    show items.toList.reverse.toArray.size ≤ sizeLine
    simpa using hsz
  obtain ⟨os, hos, hcs, hds⟩ := id hs
  have hTs : s.TypeIs (.ref sl) "slice" := ⟨os, hos, hcs⟩
  unfold getItem
  try with_reducible refine wpAny_holding ?_
  first | refine wpAny_bind (wpAny_pure ?_) | skip
  refine wpAny_bind (wpAny_sequenceKey ht.typeIs (by decide) ?_)
  refine wpAny_bind (wpAny_callSpecial?_slot (name := Str.ofString "__getitem__") ht.typeIs PyProof.Rows.slot_tuple_getitem
    (wpAny_call_entry PyProof.Rows.slot_tuple_getitem ht.typeIs entry_tuple_getitem ?_ (args_tuple_getitem _ _)))
  show wpAny _ _ (Builtin.Tuple.tupleItemsOf (.ref t) >>= _) _ _ s
  refine wpAny_bind (tupleItemsOf_ ht (wpAny_bind (wpAny_typeOf hTs ?_)))
  rw [if_pos (by decide)]
  refine wpAny_bind (slice_rev hs ps ?_)
  have no : ¬ (((((items.size : Nat) : Int) - 1) == 0 && (-1 : Int) == 1 && items.size == items.size) = true) := by
    simp
  show wpAny _ _ (if (((items.size : Int) - 1) == 0 && (-1 : Int) == 1 && items.size == items.size) = true then _ else _) _ _ s
  rw [if_neg no, pick_rev]
  exact wpAny_bind (m := Builtin.Tuple.tupleExact _) (wpAny_newObj_type (wpAny_pure ⟨_, rfl, wpAny_pure h⟩) fits)
end
end Sim
namespace Sim
open PySem PySem.Spec PyProof.Rows L2
variable [Tb] [Lm]
/-! ### x[::-1] of a list or of a tuple -/
def tRevA (K : PySem.W.Frag) (te : TE) : TE := fun σ H Q => te σ H fun x H1 => ∃ a xs, x = .ref a ∧ ((SqL K H1 a xs ∧ ∀ p, H1 p = none → Q (.ref p) (upd H1 p (.lst xs.reverse))) ∨ (SqT K H1 a xs ∧ NewT xs.reverse H1 Q))
theorem pe_revA {X : Cx} {e : Expr} {te : TE} {k : Nat} {p1 p2 p3 pos : Pos} (he : PE X e te) : PE X (.Subscript e (.Slice none none (some (.UnaryOp .USub (.Constant (.int 1) k p1) p2)) p3) pos) (tRevA X.K te) := by
  refine ⟨fun pins s σ H Q I h => ?_⟩
  refine Subscript_ (thn (he.run pins s σ H _ I h) fun v s1 ⟨x, H1, I1, r1, a, xs, ex, q⟩ => ?_)
  subst ex
  cases r1
  have hst : PO X (some (.UnaryOp .USub (.Constant (.int 1) k p1) p2)) (tPart (tUn (rU fun i => .int (-i)) (tC (.int 1)))) := po_some (pe_un un_neg pe_int)
  refine wpAny_Slice (thn (po_none.run pins s1 σ H1 (fun o H2 => o = none ∧ H2 = H1) I1 ⟨rfl, rfl⟩) fun vl s2 ⟨l, H2, I2, pl, el, e2⟩ => ?_)
  subst el e2
  refine thn (po_none.run pins s2 σ H2 (fun o H3 => o = none ∧ H3 = H2) I2 ⟨rfl, rfl⟩) fun vu s3 ⟨u, H3, I3, pu, eu, e3⟩ => ?_
  subst eu e3
  refine thn (hst.run pins s3 σ H3 (fun o H4 => o = some (-1) ∧ H4 = H3) I3 ⟨1, rfl, -1, rfl, rfl, rfl⟩) fun vs s4 ⟨o, H4, I4, ps, eo, e4⟩ => ?_
  subst eo e4
  have I5 : Inv X pins σ H4 { s4 with heap := s4.heap.push { cls := .type "slice", data := .fields #[vl, vu, vs] } } := I4.kept (t' := s4.toks) fun b ob q => Heap.get?_push_of_some _ q
  show wpAny (model X.prog X.w) X.A (subscriptTail e (.Slice none none (some (.UnaryOp .USub (.Constant (.int 1) k p1) p2)) p3) (.ref a) (.ref s4.heap.objs.size)) (EP X pins σ Q) X.xe { s4 with heap := s4.heap.push { cls := .type "slice", data := .fields #[vl, vu, vs] } }
  rcases q with ⟨hx, q⟩ | ⟨hx, q⟩
  · obtain ⟨its, r, ht, hz⟩ := I5.list hx
    have hlen := r.length
    refine tail_any (ops := [.ref a, .ref s4.heap.objs.size]) ht.isList.typeIs (PySem.slot_list_getitem.lookup) ?_ (by with_unfolding_all rfl)
    refine wpAny_getItem_list_slice ht.isList (Heap.IsSliceOf.new _ vl vu vs) pl pu ps (by decide) ?_ (by rw [List.size_toArray]; omega)
    rw [PySem.W.krv_pick]
    exact ⟨.ref _, _, I5.laid (t' := s4.toks) (o := .lst xs.reverse) (fun b ob q => Heap.get?_push_of_some _ q) (Nat.le_refl _) ⟨by rw [List.length_reverse]; exact hz, _, 0, r.reverse, Heap.get?_push_size _ rfl⟩, rfl, q _ (I5.hok.fresh (Nat.le_refl _))⟩
  · obtain ⟨its, r, ht, hz⟩ := I5.tuple hx
    have hlen := r.length
    cases pl; cases pu
    refine tail_any (ops := [.ref a, .ref s4.heap.objs.size]) ht.typeIs PyProof.Rows.slot_tuple_getitem.lookup ?_ (by with_unfolding_all rfl)
    refine item_rev ht (Heap.IsSliceOf.new _ _ _ vs) ps ?_ (by rw [List.size_toArray]; omega)
    exact ep_tup I5 r.reverse (by rw [List.length_reverse]; exact hz) q
end Sim
namespace Sim
open PySem PySem.Spec PyProof.Rows L2
variable [Tb] [Lm]

section
variable {K : PySem.W.Frag} {g : G} {H : Hp}
theorem toKey_ok {x : PV} {v : V} (r : RV K g H x v) {k : Key} (e : toKey x = some k) : v = kV k := by
  cases r with
  | int i => cases e; rfl
  | str i => cases e; rfl
  | _ => cases e
theorem lookK_ok (k : Key) : ∀ {kvs : List (Key × PV)} {ws : List (Key × V)}, RVK K g H kvs ws → match lookK k kvs with
    | some x => ∃ v, valV ws k = some v ∧ RV K g H x v
    | none => valV ws k = none
  | _, _, .nil => rfl
  | _, _, .cons (k := j) r l => by
    by_cases e : j = k
    · simp only [lookK, if_pos e]
      exact ⟨_, valV_pos e, r⟩
    · simp only [lookK, if_neg e]
      rw [valV_neg e]
      exact lookK_ok k l
theorem lookK_some (k : Key) {kvs : List (Key × PV)} {ws : List (Key × V)} (h : RVK K g H kvs ws) : (valV ws k).isSome = (lookK k kvs).isSome := by
  have := lookK_ok k h
  split at this
  · rename_i x e; obtain ⟨v, e2, _⟩ := this; rw [e, e2]; rfl
  · rename_i e; rw [e, this]; rfl
end
/-! ### in -/
def rInT (K : PySem.W.Frag) (neg : Bool) : R2 := fun x y H Q => ∃ d ds, Dp K H x d ∧ Dp K H y (.tuple ds) ∧ SeqAt.shaped d = true ∧ SeqAt.shaped (.tuple ds) = true ∧ Q (.bl (if neg then !ds.any fun z => PyData.eqv z d else ds.any fun z => PyData.eqv z d)) H
def rInDi (neg : Bool) : R2 := fun x y H Q => ∃ a o, y = .ref a ∧ DGet H a x o ∧ Q (.bl (if neg then !o.isSome else o.isSome)) H
section
variable {X : Cx}
theorem tup_room {A : Around} {d : PyData} {n : Nat} (h : SeqAt.shaped d = true) (hu : A.units + 65 < cLine) : A.units + 1 + min n d.depth < cLine := by
  have h1 := SeqAt.depth_of_shaped h
  have h2 : min n d.depth ≤ d.depth := Nat.min_le_right _ _
  omega
theorem o_inT (hu : X.A.units + 65 < cLine) : OpR X (compareOp .In) (rInT X.K false) := by
  intro pins s σ H x y v u Q I rx ry h
  obtain ⟨d, ds, hd, he, sd, se, q⟩ := h
  obtain ⟨as, r1⟩ := Dp.reads I d x v hd rx
  obtain ⟨bs, r2⟩ := Dp.reads I (.tuple ds) y u he ry
  exact SeqAt.in_tuple_reads r2 r1 (SeqAt.canLay_of_shaped se) (SeqAt.canLay_of_shaped sd) (tup_room sd hu) ⟨.bl _, H, I, rfl, q⟩
theorem o_notInT (hu : X.A.units + 65 < cLine) : OpR X (compareOp .NotIn) (rInT X.K true) := by
  intro pins s σ H x y v u Q I rx ry h
  obtain ⟨d, ds, hd, he, sd, se, q⟩ := h
  obtain ⟨as, r1⟩ := Dp.reads I d x v hd rx
  obtain ⟨bs, r2⟩ := Dp.reads I (.tuple ds) y u he ry
  exact SeqAt.notIn_tuple_reads r2 r1 (SeqAt.canLay_of_shaped se) (SeqAt.canLay_of_shaped sd) (tup_room sd hu) ⟨.bl _, H, I, rfl, q⟩
theorem o_inDi (hu : X.A.units + 65 < cLine) : OpR X (compareOp .In) (rInDi false) := by
  intro pins s σ H x y v u Q I rx ry ⟨a, o, e, dg, q⟩
  subst e
  cases ry
  exact d_in (by omega) I dg rx fun s' I' => ⟨.bl _, H, I', rfl, q⟩
theorem o_notInDi (hu : X.A.units + 65 < cLine) : OpR X (compareOp .NotIn) (rInDi true) := by
  intro pins s σ H x y v u Q I rx ry ⟨a, o, e, dg, q⟩
  subst e
  cases ry
  exact d_notIn (by omega) I dg rx fun s' I' => ⟨.bl _, H, I', rfl, q⟩
abbrev rIn4 (K : PySem.W.Frag) : R2 := fun x y H Q => ((∃ (c : Nat) (z : Str), x = .str ⟨#[c]⟩ ∧ y = .str z ∧ Q (.bl (decide (c ∈ z.cps.toList))) H) ∨ rInT K false x y H Q) ∨ (rInDi false x y H Q ∨ rInD K x y H Q)
abbrev rNin4 (K : PySem.W.Frag) : R2 := fun x y H Q => ((∃ (c : Nat) (z : Str), x = .str ⟨#[c]⟩ ∧ y = .str z ∧ Q (.bl (!decide (c ∈ z.cps.toList))) H) ∨ rInT K true x y H Q) ∨ (rInDi true x y H Q ∨ rNotInD K x y H Q)
theorem o_in (hu : X.A.units + 65 < cLine) : OpR X (compareOp .In) (rIn4 X.K) := (op_in_sign.or (o_inT hu)).or ((o_inDi hu).or (op_inD hu))
theorem o_notin (hu : X.A.units + 65 < cLine) : OpR X (compareOp .NotIn) (rNin4 X.K) := (op_notIn_sign.or (o_notInT hu)).or ((o_notInDi hu).or (op_notInD hu))
variable {T : String → Value} {E : XK}
theorem str_one {c : Str} {n : Nat} (e : c.cps.toList = [n]) : c = ⟨#[n]⟩ := by
  obtain ⟨a⟩ := c
  congr 1
  apply Array.toList_inj.mp
  exact e
theorem s_inn (neg : Bool) {g : G} {H : Hp} {st : Sto} {x y : PV} {v u : V} {Q : VK} (s : StOk X.K g H st) (r1 : RV X.K g H x v) (r2 : RV X.K g H y u) (h : okR T X.K (rV X.K) g H (sInn neg x y st) Q E) :
    ((∃ (c : Nat) (z : Str), v = .str ⟨#[c]⟩ ∧ u = .str z ∧ Q (.bl (if neg then !decide (c ∈ z.cps.toList) else decide (c ∈ z.cps.toList))) H) ∨ rInT X.K neg v u H Q) ∨
      (rInDi neg v u H Q ∨ ∃ d ds, Dp X.K H v d ∧ Dp X.K H u (.list ds) ∧ SeqAt.shaped d = true ∧ SeqAt.shaped (.list ds) = true ∧ Q (.bl (if neg then !ds.any fun z => PyData.eqv z d else ds.any fun z => PyData.eqv z d)) H) := by
  unfold sInn at h
  split at h
  · cases r2
    split at h
    · cases r1
      split at h
      · rename_i e
        cases str_one e
        exact .inl (.inl ⟨_, _, rfl, rfl, okR.fin h s (.bl _)⟩)
      · exact h.elim
    · exact h.elim
  · rename_i ys
    split at h
    · rename_i d ds e1 e2
      split at h
      · rename_i hf
        rw [Bool.and_eq_true] at hf
        refine .inl (.inr ⟨d, ds, toDS_ok s r1 e1, ?_, hf.1, hf.2, okR.fin h s (.bl _)⟩)
        exact toD_ok r2 (by simp only [toD, e2]; rfl)
      · exact h.elim
    · exact h.elim
  · split at h
    · rename_i kvs e
      split at h
      · rename_i k ek
        obtain ⟨a, ws, rfl, hd, l⟩ := asD_ok s r2 e
        cases toKey_ok r1 ek
        exact .inr (.inl ⟨a, valV ws k, rfl, DGet.k hd, by rw [lookK_some k l]; exact okR.fin h s (.bl _)⟩)
      · exact h.elim
    · split at h
      · rename_i d ds e1 e2
        split at h
        · rename_i hf
          rw [Bool.and_eq_true] at hf
          refine .inr (.inr ⟨d, ds, toDS_ok s r1 e1, ?_, hf.1, hf.2, okR.fin h s (.bl _)⟩)
          obtain ⟨ys, e3, e4⟩ := Option.bind_eq_some_iff.mp e2
          obtain ⟨a, vs, rfl, hl, l⟩ := asL_ok s r2 e3
          exact .lst hl (toDs_ok l e4)
        · exact h.elim
      · exact h.elim
theorem s_in : S2 T X.K E (rIn4 X.K) (sInn false) := fun _ _ _ _ _ _ _ _ s r1 r2 h => s_inn false s r1 r2 h
theorem s_notin : S2 T X.K E (rNin4 X.K) (sInn true) := fun _ _ _ _ _ _ _ _ s r1 r2 h => s_inn true s r1 r2 h

/-! ### x[i] -/
def rIxD : R2 := fun x y H Q => ∃ a v, x = .ref a ∧ DGet H a y (some v) ∧ Q v H
theorem ix_dict (hu : X.A.units + 65 < cLine) : IxR X rIxD := by
  intro value slice pins s σ H x y v u Q I rx ry ⟨a, w, e, dg, q⟩ hs
  subst e
  cases rx
  exact tail_any (dict_typeIs I dg) PySem.F.slot_dict_getitem.lookup (d_getItem (by omega) I dg ry fun w' s' I' r' => ⟨w, H, I', r', q⟩) hs
abbrev rIx5 (K : PySem.W.Frag) : R2 := fun x y H Q => rIx K x y H Q ∨ rIxD x y H Q
theorem o_ix (hu : X.A.units + 65 < cLine) : IxR X (rIx5 X.K) := ix_seq.or (ix_dict hu)
theorem at_ok {K : PySem.W.Frag} {g : G} {H : Hp} {xs : List PV} {vs : List V} (l : RVL K g H xs vs) {i : Int} {x : PV} (e : atI xs i = some x) : ∃ v, atI vs i = some v ∧ RV K g H x v := by
  unfold atI at e ⊢
  obtain ⟨j, h1, h2⟩ := Option.bind_eq_some_iff.mp e
  obtain ⟨v, h3, r⟩ := l.get h2
  exact ⟨v, by rw [← l.length, h1]; exact h3, r⟩
theorem s_ix : S2 T X.K E (rIx5 X.K) sIx := by
  intro g H st x y v u Q s r1 r2 h
  unfold sIx at h
  split at h
  · cases r1
    split at h
    · cases r2
      split at h
      · rename_i c e
        split at h
        · rename_i hf
          exact .inl (.inr (.inr ⟨_, _, c, rfl, rfl, by rw [sizeLine_eq]; exact of_decide_eq_true hf, e, okR.fin h s (.str _)⟩))
        · exact h.elim
      · exact h.elim
    · exact h.elim
  · obtain ⟨a, vs, rfl, h1, l1⟩ := asT_ok r1 rfl
    split at h
    · cases r2
      split at h
      · rename_i w e
        obtain ⟨z, e2, rz⟩ := at_ok l1 e
        exact .inl (.inr (.inl ⟨a, vs, _, z, rfl, rfl, h1.t, e2, okR.fin h s rz⟩))
      · exact h.elim
    · exact h.elim
  · split at h
    · rename_i kvs e
      split at h
      · rename_i k ek
        split at h
        · rename_i w ew
          obtain ⟨a, ws, rfl, hd, l⟩ := asD_ok s r1 e
          cases toKey_ok r2 ek
          have := lookK_ok k l
          rw [ew] at this
          obtain ⟨z, e2, rz⟩ := this
          exact .inr ⟨a, z, rfl, by rw [← e2]; exact DGet.k hd, okR.fin h s rz⟩
        · exact h.elim
      · exact h.elim
    · split at h
      · rename_i xs e
        obtain ⟨a, vs, rfl, hl, l⟩ := asL_ok s r1 e
        split at h
        · cases r2
          split at h
          · rename_i w ew
            obtain ⟨z, e2, rz⟩ := at_ok l ew
            exact .inl (.inl ⟨a, vs, _, z, rfl, rfl, hl, e2, okR.fin h s rz⟩)
          · exact h.elim
        · exact h.elim
      · exact h.elim
end

/-! ### slices -/
def cutP (xs : List PV) (lo hi : Option Int) : List PV := (xs.drop (HT.sIx xs.length 0 lo)).take (HT.sIx xs.length xs.length hi - HT.sIx xs.length 0 lo)
abbrev MO' := Lo → Sto → Res (Option Int)
def oNone : MO' := fun _ st => .ok none st
def oSome (m : M) : MO' := fun env st => (m env st).bind fun x s1 => match x with
  | .int i => .ok (some i) s1
  | _ => .bad
def sSlice (x : PV) (lo hi : Option Int) (st : Sto) : Res PV := match x with
  | .tup xs => .ok (.tup (cutP xs lo hi)) st
  | x => match asL st x with
    | some xs => .ok (.lst (cutP xs lo hi)) st
    | none => .bad
def mSlice (a : M) (lo hi : MO') : M := fun env st => (a env st).bind fun x s1 => (lo env s1).bind fun l s2 => (hi env s2).bind fun u s3 => sSlice x l u s3
def sRev : Se1 := fun x st => match x with
  | .tup xs => .ok (.tup xs.reverse) st
  | x => match asL st x with
    | some xs => .ok (.lst xs.reverse) st
    | none => .bad
section
variable {X : Cx} {T : String → Value} {E : XK} {e : Expr} {m : M} {ml mu : MO'} {lo hi : Option Expr} {pos p2 : Pos}
abbrev OX (X : Cx) (T : String → Value) (E : XK) (e : Option Expr) (m : MO') : Prop := PO X e (fun σ H Q => ∃ g st env, StOk X.K g H st ∧ EnvOk X.K g H env σ ∧ okR T X.K (fun _ _ (a b : Option Int) => a = b) g H (m env st) Q E)
theorem po_imp {e : Option Expr} {t t' : TO} (h : PO X e t) (i : ∀ σ H Q, t' σ H Q → t σ H Q) : PO X e t' := ⟨fun pins s σ H Q I q => h.run pins s σ H Q I (i σ H Q q)⟩
theorem x_onone : OX X T E none oNone := po_imp po_none fun σ H Q ⟨g, st, env, s, en, h⟩ => okR.fin h s rfl
theorem x_osome {e : Expr} (ha : EX X T E e m) : OX X T E (some e) (oSome m) := po_imp (po_some ha) fun σ H Q ⟨g, st, env, s, en, h⟩ => tv_of s en h fun g1 H1 st1 x v e1 s1 en1 r1 h1 => by
  cases x with
  | int i => cases r1; exact ⟨i, rfl, okR.fin h1 s1 rfl⟩
  | _ => exact h1.elim
theorem cut_ok {K : PySem.W.Frag} {g : G} {H : Hp} {xs : List PV} {vs : List V} (l : RVL K g H xs vs) (lo hi : Option Int) : RVL K g H (cutP xs lo hi) (cutV vs lo hi) := by
  unfold cutP cutV
  rw [← l.length]
  exact (l.drop _).take _
abbrev rSl2 (K : PySem.W.Frag) : V → Option Int → Option Int → Hp → VK → Prop := fun x lo hi H Q => rSlN K x lo hi H Q ∨ rSlL K x lo hi H Q
theorem o_slice : SlR X (rSl2 X.K) := sl_tupN.or sl_list
theorem s_slice {g : G} {H : Hp} {st : Sto} {x : PV} {v : V} {lo hi : Option Int} {Q : VK} (s : StOk X.K g H st) (r : RV X.K g H x v) (h : okR T X.K (rV X.K) g H (sSlice x lo hi st) Q E) : rSl2 X.K v lo hi H Q := by
  unfold sSlice at h
  split at h
  · rename_i xs
    obtain ⟨a, vs, rfl, h1, l1⟩ := asT_ok r rfl
    refine .inl ⟨a, vs, rfl, h1.t, fun q => ?_, fun _ => giveT s (cut_ok l1 lo hi) h⟩
    have e : cutP xs lo hi = xs := by
      unfold cutP
      rw [l1.length, q.1, q.2, List.drop_zero, Nat.sub_zero, ← l1.length, List.take_length]
    rw [e] at h
    exact okR.fin h s r
  · split at h
    · rename_i xs e
      obtain ⟨a, vs, rfl, h1, l1⟩ := asL_ok s r e
      exact .inr ⟨a, vs, rfl, h1, giveF s (cut_ok l1 lo hi) h⟩
    · exact h.elim
theorem x_slice (ha : EX X T E e m) (hl : OX X T E lo ml) (hu : OX X T E hi mu) : EX X T E (.Subscript e (.Slice lo hi none p2) pos) (mSlice m ml mu) :=
  pe_imp (pe_slice o_slice ha hl hu) fun σ H Q ⟨g, st, env, s, en, h⟩ => tv_of s en h fun g1 H1 st1 x v e1 s1 en1 r1 h1 => ⟨g1, st1, env, s1, en1, h1.step.imp fun l H2 ⟨g2, st2, l', e2, s2, r2, h2⟩ => by
    subst r2
    exact ⟨g2, st2, env, s2, en1.mono e2, h2.step.imp fun u H3 ⟨g3, st3, u', e3, s3, r3, h3⟩ => by
      subst r3
      exact s_slice s3 (r1.mono (e2.trans e3)) h3⟩⟩
theorem x_rev {k : Nat} {p1 p3 p4 : Pos} (ha : EX X T E e m) : EX X T E (.Subscript e (.Slice none none (some (.UnaryOp .USub (.Constant (.int 1) k p1) p3)) p4) pos) (mUn sRev m) :=
  pe_imp (pe_revA ha) fun σ H Q ⟨g, st, env, s, en, h⟩ => tv_of s en h fun g1 H1 st1 x v e1 s1 en1 r1 h1 => by
    unfold sRev at h1
    split at h1
    · cases r1 with
      | tup hx l => exact ⟨_, _, rfl, .inr ⟨hx.t, giveT s1 l.reverse h1⟩⟩
    · split at h1
      · rename_i xs e
        obtain ⟨a, vs, rfl, h2, l1⟩ := asL_ok s1 r1 e
        exact ⟨a, vs, rfl, .inl ⟨h2, giveF s1 l1.reverse h1⟩⟩
      · exact h1.elim
end
end Sim

set_option Elab.async false
set_option linter.all false
set_option maxRecDepth 100000
set_option maxHeartbeats 4000000
namespace Sim
open PySem PySem.Spec PyProof.Rows L2 RZ
variable [Tb] [Lm]

/-! ### targets -/
inductive Tgt where
  | one (i : Nat) | many (is : List Nat)
def setMany : List Nat → List PV → Lo → Lo
  | i :: is, x :: xs, env => setMany is xs (env.set i (some x))
  | _, _, env => env
def Tgt.run : Tgt → PV → Lo → Option Lo
  | .one i, x, env => some (env.set i (some x))
  | .many is, .tup xs, env => if xs.length = is.length then some (setMany is xs env) else none
  | .many is, .wtp xs, env => if xs.length = is.length then some (setMany is xs env) else none
  | .many _, _, _ => none
def Tgt.slots : Tgt → List Nat
  | .one i => [i]
  | .many is => is
def gMany : List Nat → TGs
  | [] => gNil
  | i :: is => gCons (gName i) (gMany is)
def tgR (K : PySem.W.Frag) : Tgt → TG
  | .one i => gName i
  | .many is => gTup K is.length (gMany is)
theorem wipe_set {σ : L2.St} {i : Nat} {x : Option V} : ∀ {vs : List Nat}, i ∈ vs → wipe (σ.set i x) vs = wipe σ vs
  | v :: vs, h => by
    unfold wipe
    by_cases e : i ∈ vs
    · rw [wipe_set e]
    · have e2 : i = v := by
        rcases List.mem_cons.mp h with z | z
        · exact z
        · exact absurd z e
      subst e2
      have q : ∀ (us : List Nat), i ∉ us → wipe (σ.set i x) us = (wipe σ us).set i x := by
        intro us
        induction us with
        | nil => intro _; rfl
        | cons u us ih =>
          intro hn
          have h1 : i ≠ u := fun z => hn (z ▸ List.mem_cons_self)
          have h2 : i ∉ us := fun z => hn (List.mem_cons_of_mem _ z)
          show (wipe (σ.set i x) us).set u none = ((wipe σ us).set u none).set i x
          rw [ih h2, List.set_comm _ _ h1]
      rw [q vs e, List.set_set]
theorem many_ok {K : PySem.W.Frag} {g : G} {H : Hp} : ∀ (is : List Nat) {xs : List PV} {vs : List V} {env : Lo} {σ : L2.St} {Q : L2.St → Hp → Prop}, EnvOk K g H env σ → RVL K g H xs vs → xs.length = is.length →
    (∀ σ', EnvOk K g H (setMany is xs env) σ' → (∀ us : List Nat, (∀ i ∈ is, i ∈ us) → wipe σ' us = wipe σ us) → Q σ' H) → gMany is vs σ H Q
  | [], [], _, env, σ, Q, en, r, hl, q => by
    cases r
    exact ⟨rfl, q σ en fun _ _ => rfl⟩
  | i :: is, x :: xs, _, env, σ, Q, en, r, hl, q => by
    cases r with
    | cons r l =>
      refine ⟨_, _, rfl, ?_⟩
      refine many_ok is (en.set r i) l (by simpa using hl) fun σ' en' w => q σ' en' fun us hu => ?_
      rw [w us fun j hj => hu j (List.mem_cons_of_mem _ hj), wipe_set (hu i List.mem_cons_self)]
theorem tg_ok {K : PySem.W.Frag} {g : G} {H : Hp} {t : Tgt} {x : PV} {v : V} {env env' : Lo} {σ : L2.St} {Q : L2.St → Hp → Prop} (en : EnvOk K g H env σ) (r : RV K g H x v) (e : t.run x env = some env')
    (q : ∀ σ', EnvOk K g H env' σ' → (∀ us : List Nat, (∀ i ∈ t.slots, i ∈ us) → wipe σ' us = wipe σ us) → Q σ' H) : tgR K t v σ H Q := by
  cases t with
  | one i =>
    cases e
    exact q _ (en.set r i) fun us hu => wipe_set (hu i List.mem_cons_self)
  | many is =>
    cases x with
    | tup xs =>
      simp only [Tgt.run] at e
      split at e
      · rename_i hl
        cases e
        cases r with
        | tup h l =>
          exact ⟨_, _, rfl, h.t, by rw [← l.length]; exact hl, many_ok is en l hl q⟩
      · cases e
    | wtp xs =>
      simp only [Tgt.run] at e
      split at e
      · rename_i hl
        cases e
        cases r with
        | wtp h l =>
          exact ⟨_, _, rfl, h, by rw [← l.length]; exact hl, many_ok is en l hl q⟩
      · cases e
    | _ => cases e
abbrev GX (X : Cx) (e : Expr) (t : Tgt) : Prop := PG X e (tgR X.K t)
abbrev GXs (X : Cx) (es : List Expr) (is : List Nat) : Prop := PGs X es (gMany is)
section
variable {X : Cx} {pos : Pos}
theorem g_one {i : Nat} {x : Str} (hN : X.N.Nodup) (hi : X.N[i]? = some x) (hx : Loc X.env.scope x) (hf : X.fn x = true ∨ X.env.scope.names.lookup x = some .local) : GX X (.Name x pos) (.one i) := pg_name hN hi hx hf
theorem g_nil : GXs X [] [] := pgs_nil
theorem g_cons {e : Expr} {es : List Expr} {i : Nat} {is : List Nat} (h : GX X e (.one i)) (r : GXs X es is) (hs : (assignEach (e :: es) X.env).map (·.2) = assign e X.env :: (assignEach es X.env).map (·.2) := by rfl) : GXs X (e :: es) (i :: is) := pgs_cons h r hs
theorem g_many {es : List Expr} {k : Nat} {is : List Nat} (hc : X.calm = true) (h : GXs X es is) (hn : (assignEach es X.env).length = is.length := by rfl) (hst : (assignEach es X.env).findIdx? (·.1) = none := by rfl) : GX X (.Tuple es k pos) (.many is) := pg_tup hc h hn hst
end

/-! ### what is walked -/
def Walks (K : PySem.W.Frag) (J : It) (xs : List PV) (g0 : G) (H0 : Hp) : Prop := ∀ g H st, Ext g0 H0 g H → StOk K g H st → ∀ i,
  (xs.length ≤ i → J.stop i H) ∧ ∀ x, xs[i]? = some x → J.go i H ∧ ∀ v H', J.yld i H v H' → Ext g H g H' ∧ StOk K g H' st ∧ RV K g H' x v
/-- what stands still for a walk -/
def asW : PV → Option (List PV)
  | .tup xs => some xs
  | .lst xs => some xs
  | .rol xs => some xs
  | _ => none
def signs (z : Str) : List PV := z.cps.toList.map fun c => .str ⟨#[c]⟩
def rangeP (lo : Int) (n : Nat) : List PV := (List.range n).map fun i => .int (lo + (i : Nat))
abbrev iL := ML
def sIter : PV → Sto → Res (List PV) := fun x st => match x with
  | .str z => .ok (signs z) st
  | x => match asW x with
    | some xs => .ok xs st
    | none => .bad
def mIter (m : M) : iL := fun env st => (m env st).bind sIter
def mRange1 (m : M) : iL := fun env st => (m env st).bind fun x s => match x with
  | .int n => if decide (-(2 ^ 62) ≤ n) && decide (n < 2 ^ 62) then .ok (rangeP 0 n.toNat) s else .bad
  | _ => .bad
def mRange2 (m m' : M) : iL := fun env st => (m env st).bind fun x s => (m' env s).bind fun y s2 => match x, y with
  | .int a, .int b => if decide (-(2 ^ 62) ≤ a) && decide (a < 2 ^ 62) && decide (-(2 ^ 62) ≤ b) && decide (b < 2 ^ 62) then .ok (rangeP a (b - a).toNat) s2 else .bad
  | _, _ => .bad
def zipP : List PV → List PV → List PV
  | x :: xs, y :: ys => .wtp [x, y] :: zipP xs ys
  | _, _ => []
def enumP (n : Nat) : List PV → List PV
  | [] => []
  | x :: xs => .wtp [.int (n : Nat), x] :: enumP (n + 1) xs
def asFL : PV → Option (List PV)
  | .lst xs => some xs
  | .rol xs => some xs
  | _ => none
def mZip (m m' : M) : iL := fun env st => (m env st).bind fun x s => (m' env s).bind fun y s2 => match x, y with
  | .tup xs, .tup ys => .ok (zipP xs ys) s2
  | x, y => match asFL x, asFL y with
    | some xs, some ys => .ok (zipP xs ys) s2
    | _, _ => .bad
def mEnum (m : M) : iL := fun env st => (m env st).bind fun x s => match asFL x with
  | some xs => .ok (enumP 0 xs) s
  | none => .bad
section
variable (T : String → Value) (K : PySem.W.Frag) (E : XK)
def TI' (m : iL) : TI := fun σ H R => ∃ g st env, StOk K g H st ∧ EnvOk K g H env σ ∧ okR T K (fun g H xs J => Walks K J xs g H) g H (m env st) R E
end
section
variable {K : PySem.W.Frag} {g : G} {H : Hp}
theorem walks_T {a : Addr} {xs : List PV} {vs : List V} (h : SqT K H a vs) (l : RVL K g H xs vs) : Walks K (Itt K a) xs g H := by
  intro g1 H1 st e s i
  have h1 := e.seqT h
  have l1 := l.mono e
  refine ⟨fun hi => ⟨vs, h1, by rw [← l1.length]; exact hi⟩, fun x hx => ?_⟩
  obtain ⟨v, hv, r⟩ := l1.get hx
  refine ⟨⟨vs, v, h1, hv⟩, fun w H' ⟨e1, e2⟩ => ?_⟩
  subst e1
  have := e2 vs h1
  rw [hv] at this; cases this
  exact ⟨Ext.refl _ _, s, r⟩
theorem walks_L {a : Addr} {xs : List PV} {vs : List V} (h : ∀ g' H', Ext g H g' H' → SqL K H' a vs) (l : RVL K g H xs vs) : Walks K (Itl K a) xs g H := by
  intro g1 H1 st e s i
  have h1 := h g1 H1 e
  have l1 := l.mono e
  refine ⟨fun hi => ⟨vs, h1, by rw [← l1.length]; exact hi⟩, fun x hx => ?_⟩
  obtain ⟨v, hv, r⟩ := l1.get hx
  refine ⟨⟨vs, v, h1, hv⟩, fun w H' ⟨e1, e2⟩ => ?_⟩
  subst e1
  have := e2 vs h1
  rw [hv] at this; cases this
  exact ⟨Ext.refl _ _, s, r⟩
theorem asFL_ok {x : PV} {v : V} (r : RV K g H x v) {xs : List PV} (e : asFL x = some xs) : ∃ a vs, v = .ref a ∧ (∀ g' H', Ext g H g' H' → SqL K H' a vs) ∧ RVL K g H xs vs := by
  cases r with
  | lst f h l => cases e; exact ⟨_, _, rfl, fun g' H' e => .of ((e.F _ f).2.trans h), l⟩
  | rol f h l => cases e; exact ⟨_, _, rfl, fun g' H' e => .inl (.inr ⟨_, (e.F _ f).2.trans h⟩), l⟩
  | rolK h h2 l => cases e; exact ⟨_, _, rfl, fun g' H' e => h H', l⟩
  | _ => cases e
theorem walks_S (z : Str) : Walks K (Its z) (signs z) g H := by
  intro g1 H1 st e s i
  refine ⟨fun hi => ?_, fun x hx => ?_⟩
  · show z.cps.size ≤ i
    simpa [signs] using hi
  · simp only [signs, List.getElem?_map, Option.map_eq_some_iff] at hx
    obtain ⟨c, hc, rfl⟩ := hx
    have hc' : z.cps[i]? = some c := by simpa using hc
    refine ⟨(Array.getElem?_eq_some_iff.mp hc').1, fun v H' ⟨e1, d, hd, e2⟩ => ?_⟩
    subst e1 e2
    rw [hc'] at hd; cases hd
    exact ⟨Ext.refl _ _, s, .str _⟩
theorem walks_R (lo : Int) (n : Nat) : Walks K (Itr lo n) (rangeP lo n) g H := by
  intro g1 H1 st e s i
  refine ⟨fun hi => ?_, fun x hx => ?_⟩
  · show n ≤ i
    simpa [rangeP] using hi
  · simp only [rangeP, List.getElem?_map, Option.map_eq_some_iff] at hx
    obtain ⟨c, hc, rfl⟩ := hx
    obtain ⟨h1, h2⟩ := List.getElem?_eq_some_iff.mp hc
    simp at h1 h2
    subst h2
    refine ⟨h1, fun v H' ⟨e1, e2⟩ => ?_⟩
    subst e1 e2
    exact ⟨Ext.refl _ _, s, .int _⟩
theorem zipP_get : ∀ {xs ys : List PV} {i : Nat} {z : PV}, (zipP xs ys)[i]? = some z → ∃ x y, xs[i]? = some x ∧ ys[i]? = some y ∧ z = .wtp [x, y]
  | x :: xs, y :: ys, 0, z, h => by simp [zipP] at h; exact ⟨x, y, rfl, rfl, h.symm⟩
  | x :: xs, y :: ys, i + 1, z, h => by simpa using zipP_get (xs := xs) (ys := ys) (i := i) (by simpa [zipP] using h)
  | [], _, _, _, h => by simp [zipP] at h
  | _ :: _, [], _, _, h => by simp [zipP] at h
theorem zipP_len : ∀ {xs ys : List PV}, (zipP xs ys).length = min xs.length ys.length
  | [], _ => by simp [zipP]
  | _ :: _, [] => by simp [zipP]
  | x :: xs, y :: ys => by simp [zipP, zipP_len (xs := xs) (ys := ys)]
theorem enumP_get : ∀ {xs : List PV} {n i : Nat} {z : PV}, (enumP n xs)[i]? = some z → ∃ x, xs[i]? = some x ∧ z = .wtp [.int ((n + i : Nat) : Int), x]
  | x :: xs, n, 0, z, h => by simp [enumP] at h; exact ⟨x, rfl, by rw [← h]; rfl⟩
  | x :: xs, n, i + 1, z, h => by
    obtain ⟨y, h1, h2⟩ := enumP_get (xs := xs) (n := n + 1) (i := i) (by simpa [enumP] using h)
    exact ⟨y, by simpa using h1, by rw [h2]; congr 4 <;> omega⟩
  | [], _, _, _, h => by simp [enumP] at h
theorem enumP_len : ∀ {xs : List PV} {n : Nat}, (enumP n xs).length = xs.length
  | [], _ => rfl
  | x :: xs, n => by simp [enumP, enumP_len (xs := xs)]
theorem pairT {st : Sto} (s : StOk K g H st) {x y : PV} {v u : V} (rx : RV K g H x v) (ry : RV K g H y u) {p : Addr} (hp : H p = none) : Ext g H g (upd H p (.tup [v, u])) ∧ StOk K g (upd H p (.tup [v, u])) st ∧ RV K g (upd H p (.tup [v, u])) (.wtp [x, y]) (.ref p) :=
  ⟨ext_new s hp, st_new s hp, .wtp (.inl (.inl upd_same)) (.cons (rx.mono (ext_new s hp)) (.cons (ry.mono (ext_new s hp)) .nil))⟩
theorem walks_ZL {a b : Addr} {xs ys : List PV} {vs ws : List V} (h : ∀ g' H', Ext g H g' H' → SqL K H' a vs) (l : RVL K g H xs vs) (h' : ∀ g' H', Ext g H g' H' → SqL K H' b ws) (l' : RVL K g H ys ws) : Walks K (Itz K a b) (zipP xs ys) g H := by
  intro g1 H1 st e s i
  have h1 := h g1 H1 e
  have h2 := h' g1 H1 e
  have l1 := l.mono e
  have l2 := l'.mono e
  refine ⟨fun hi => ⟨vs, ws, h1, h2, ?_⟩, fun z hz => ?_⟩
  · rw [zipP_len, l1.length, l2.length] at hi
    omega
  · obtain ⟨x, y, hx, hy, rfl⟩ := zipP_get hz
    obtain ⟨v, hv, r⟩ := l1.get hx
    obtain ⟨u, hu, r'⟩ := l2.get hy
    refine ⟨⟨vs, ws, v, u, h1, h2, hv, hu⟩, fun w H' ⟨p, v', u', e1, e2, e3, e4, e5⟩ => ?_⟩
    have q1 := e4 vs h1
    have q2 := e5 ws h2
    rw [hv] at q1; rw [hu] at q2
    cases q1; cases q2
    subst e1 e3
    exact pairT s r r' e2
theorem walks_ZT {a b : Addr} {xs ys : List PV} {vs ws : List V} (h : SqT K H a vs) (l : RVL K g H xs vs) (h' : SqT K H b ws) (l' : RVL K g H ys ws) : Walks K (ItzT K a b) (zipP xs ys) g H := by
  intro g1 H1 st e s i
  have h1 := e.seqT h
  have h2 := e.seqT h'
  have l1 := l.mono e
  have l2 := l'.mono e
  refine ⟨fun hi => ⟨vs, ws, h1, h2, ?_⟩, fun z hz => ?_⟩
  · rw [zipP_len, l1.length, l2.length] at hi
    omega
  · obtain ⟨x, y, hx, hy, rfl⟩ := zipP_get hz
    obtain ⟨v, hv, r⟩ := l1.get hx
    obtain ⟨u, hu, r'⟩ := l2.get hy
    refine ⟨⟨vs, ws, v, u, h1, h2, hv, hu⟩, fun w H' ⟨p, v', u', e1, e2, e3, e4, e5⟩ => ?_⟩
    have q1 := e4 vs h1
    have q2 := e5 ws h2
    rw [hv] at q1; rw [hu] at q2
    cases q1; cases q2
    subst e1 e3
    exact pairT s r r' e2
theorem walks_E {a : Addr} {xs : List PV} {vs : List V} (h : ∀ g' H', Ext g H g' H' → SqL K H' a vs) (l : RVL K g H xs vs) : Walks K (Ite K a) (enumP 0 xs) g H := by
  intro g1 H1 st e s i
  have h1 := h g1 H1 e
  have l1 := l.mono e
  refine ⟨fun hi => ⟨vs, h1, ?_⟩, fun z hz => ?_⟩
  · rw [enumP_len, l1.length] at hi
    exact hi
  · obtain ⟨x, hx, rfl⟩ := enumP_get hz
    rw [Nat.zero_add]
    obtain ⟨v, hv, r⟩ := l1.get hx
    refine ⟨⟨vs, v, h1, hv⟩, fun w H' ⟨p, v', e1, e2, e3, e4⟩ => ?_⟩
    have q1 := e4 vs h1
    rw [hv] at q1
    cases q1
    subst e1 e3
    exact pairT s (.int _) r e2
end
section
variable {X : Cx} {T : String → Value} {E : XK} {tg l : Expr} {m m' : M} {p pos : Pos}
abbrev IX (X : Cx) (T : String → Value) (E : XK) (tg l : Expr) (m : iL) : Prop := PI X tg l (TI' T X.K E m)
theorem pi_imp {t t' : TI} (h : PI X tg l t) (i : ∀ σ H R, t' σ H R → t σ H R) : PI X tg l t' := ⟨fun pins s σ H R I q => h.run pins s σ H R I (i σ H R q)⟩
/-- over a list, a tuple, a text: what it is, is known ahead -/
theorem i_any (hl : EX X T E l m) : IX X T E tg l (mIter m) := by
  refine ⟨fun pins s σ H R I ⟨g, st, env, so, en, h⟩ => ?_⟩
  cases q : m env st with
  | bad => simp only [mIter, q] at h; exact h.elim
  | exc n fs s1 =>
    simp only [mIter, q, Res.bind_exc] at h
    refine (pi_tup hl).run pins s σ H R I ⟨g, st, env, so, en, ?_⟩
    rw [q]
    exact h
  | ok x s1 =>
    simp only [mIter, q, Res.bind_ok, sIter] at h
    split at h
    · refine (pi_str hl).run pins s σ H R I ⟨g, st, env, so, en, ?_⟩
      rw [q]
      intro g1 H1 v e1 so1 r1
      cases r1
      exact ⟨_, rfl, h g1 H1 _ e1 so1 (walks_S _)⟩
    · split at h
      · rename_i xs ex
        cases x with
        | tup ys =>
          cases ex
          refine (pi_tup hl).run pins s σ H R I ⟨g, st, env, so, en, ?_⟩
          rw [q]
          intro g1 H1 v e1 so1 r1
          cases r1 with
          | tup hh ll => exact ⟨_, rfl, ⟨_, hh.t⟩, h g1 H1 _ e1 so1 (walks_T hh.t ll)⟩
        | lst ys =>
          cases ex
          refine (pi_list hl).run pins s σ H R I ⟨g, st, env, so, en, ?_⟩
          rw [q]
          intro g1 H1 v e1 so1 r1
          obtain ⟨a, vs, rfl, hh, ll⟩ := asFL_ok r1 rfl
          exact ⟨_, rfl, ⟨_, hh g1 H1 (Ext.refl _ _)⟩, h g1 H1 _ e1 so1 (walks_L hh ll)⟩
        | rol ys =>
          cases ex
          refine (pi_list hl).run pins s σ H R I ⟨g, st, env, so, en, ?_⟩
          rw [q]
          intro g1 H1 v e1 so1 r1
          obtain ⟨a, vs, rfl, hh, ll⟩ := asFL_ok r1 rfl
          exact ⟨_, rfl, ⟨_, hh g1 H1 (Ext.refl _ _)⟩, h g1 H1 _ e1 so1 (walks_L hh ll)⟩
        | _ => cases ex
      · exact h.elim
theorem i_range1 {a : Expr} (hg : Gl X "range") (hm : X.mg "range" = none) (ha : EX X T E a m) (na : starEach (a :: []) X.env = (false, eval a X.env) :: starEach [] X.env := by rfl) (hs : starEach [a] X.env = [(false, eval a X.env)] := by rfl) : IX X T E tg (.Call (.Name "range" p) [a] [] pos) (mRange1 m) :=
  pi_imp (pi_range1 hg hm (x_cons ha x_nil na) hs) fun σ H R ⟨g, st, env, s, en, h⟩ => by
    have hh : okR T X.K (fun g H xs J => Walks X.K J xs g H) g H ((mCons m mNil env st).bind fun xs s => match xs with
      | [.int n] => if decide (-(2 ^ 62) ≤ n) && decide (n < 2 ^ 62) then .ok (rangeP 0 n.toNat) s else .bad
      | _ => .bad) R E := by
      simp only [mRange1] at h
      simp only [mCons, mNil]
      cases q : m env st with
      | ok x s1 => rw [q] at h; cases x <;> exact h
      | exc n fs s1 => rw [q] at h; exact h
      | bad => rw [q] at h; exact h
    refine tl_of s en hh fun g1 H1 st1 xs vs e1 s1 en1 r1 h1 => ?_
    split at h1
    · split at h1
      · rename_i n hf
        simp only [Bool.and_eq_true, decide_eq_true_eq] at hf
        cases r1 with
        | cons r l => cases r; cases l; exact ⟨n, rfl, hf.1, hf.2, okR.fin h1 s1 (walks_R 0 _)⟩
      · exact h1.elim
    · exact h1.elim
theorem i_range2 {a b : Expr} (hg : Gl X "range") (hm : X.mg "range" = none) (ha : EX X T E a m) (hb : EX X T E b m') (na : starEach (a :: [b]) X.env = (false, eval a X.env) :: starEach [b] X.env := by rfl) (nb : starEach (b :: []) X.env = (false, eval b X.env) :: starEach [] X.env := by rfl)
    (hs : starEach [a, b] X.env = [(false, eval a X.env), (false, eval b X.env)] := by rfl) (hs2 : starEach [b] X.env = [(false, eval b X.env)] := by rfl) : IX X T E tg (.Call (.Name "range" p) [a, b] [] pos) (mRange2 m m') :=
  pi_imp (pi_range2 hg hm (x_cons ha (x_cons hb x_nil nb) na) hs hs2) fun σ H R ⟨g, st, env, s, en, h⟩ => by
    have hh : okR T X.K (fun g H xs J => Walks X.K J xs g H) g H ((mCons m (mCons m' mNil) env st).bind fun xs s => match xs with
      | [.int a, .int b] => if decide (-(2 ^ 62) ≤ a) && decide (a < 2 ^ 62) && decide (-(2 ^ 62) ≤ b) && decide (b < 2 ^ 62) then .ok (rangeP a (b - a).toNat) s else .bad
      | _ => .bad) R E := by
      simp only [mRange2] at h
      simp only [mCons, mNil]
      cases q : m env st with
      | ok x s1 =>
        rw [q] at h
        simp only [Res.bind_ok] at h ⊢
        cases q2 : m' env s1 with
        | ok y s2 => rw [q2] at h; cases x <;> cases y <;> exact h
        | exc n fs s2 => rw [q2] at h; exact h
        | bad => rw [q2] at h; exact h
      | exc n fs s1 => rw [q] at h; exact h
      | bad => rw [q] at h; exact h
    refine tl_of s en hh fun g1 H1 st1 xs vs e1 s1 en1 r1 h1 => ?_
    split at h1
    · split at h1
      · rename_i hf
        simp only [Bool.and_eq_true, decide_eq_true_eq] at hf
        cases r1 with
        | cons r l => cases l with
          | cons r' l' => cases r; cases r'; cases l'; exact ⟨_, _, rfl, ⟨hf.1.1.1, hf.1.1.2, hf.1.2, hf.2⟩, okR.fin h1 s1 (walks_R _ _)⟩
      · exact h1.elim
    · exact h1.elim
theorem i_zip {a b : Expr} {elts : List Expr} {kk : Nat} {tpos : Pos} (hg : Gl X "zip") (hm : X.mg "zip" = none) (ha : EX X T E a m) (hb : EX X T E b m') (na : starEach (a :: [b]) X.env = (false, eval a X.env) :: starEach [b] X.env := by rfl) (nb : starEach (b :: []) X.env = (false, eval b X.env) :: starEach [] X.env := by rfl)
    (hpl : (backTo pos (starEach [b] X.env)).any (·.1) = false := by rfl) : IX X T E (.Tuple elts kk tpos) (.Call (.Name "zip" p) [a, b] [] pos) (mZip m m') :=
  pi_imp (pi_zipA hg hm (x_cons ha (x_cons hb x_nil nb) na) na hpl) fun σ H R ⟨g, st, env, s, en, h⟩ => by
    have hh : okR T X.K (fun g H xs J => Walks X.K J xs g H) g H ((mCons m (mCons m' mNil) env st).bind fun xs s => match xs with
      | [.tup xs, .tup ys] => .ok (zipP xs ys) s
      | [x, y] => match asFL x, asFL y with
        | some xs, some ys => .ok (zipP xs ys) s
        | _, _ => .bad
      | _ => .bad) R E := by
      simp only [mZip] at h
      simp only [mCons, mNil]
      cases q : m env st with
      | ok x s1 =>
        rw [q] at h
        simp only [Res.bind_ok] at h ⊢
        cases q2 : m' env s1 with
        | ok y s2 => rw [q2] at h; cases x <;> cases y <;> exact h
        | exc n fs s2 => rw [q2] at h; exact h
        | bad => rw [q2] at h; exact h
      | exc n fs s1 => rw [q] at h; exact h
      | bad => rw [q] at h; exact h
    refine tl_of s en hh fun g1 H1 st1 xs vs e1 s1 en1 r1 h1 => ?_
    split at h1
    · cases r1 with
      | cons r l => cases l with
        | cons r' l' =>
          cases l'
          cases r with
          | tup h2 l2 => cases r' with
            | tup h3 l3 => exact ⟨_, _, _, _, rfl, .inr ⟨h2.t, h3.t, okR.fin h1 s1 (walks_ZT h2.t l2 h3.t l3)⟩⟩
    · split at h1
      · rename_i x y _ _ ys zs e2 e3
        cases r1 with
        | cons r l => cases l with
          | cons r' l' =>
            cases l'
            obtain ⟨a, vs, rfl, h2, l2⟩ := asFL_ok r e2
            obtain ⟨b, ws, rfl, h3, l3⟩ := asFL_ok r' e3
            exact ⟨_, _, _, _, rfl, .inl ⟨h2 _ _ (Ext.refl _ _), h3 _ _ (Ext.refl _ _), okR.fin h1 s1 (walks_ZL h2 l2 h3 l3)⟩⟩
      · exact h1.elim
    · exact h1.elim
theorem i_enum {a : Expr} {elts : List Expr} {kk : Nat} {tpos : Pos} (hg : Gl X "enumerate") (hm : X.mg "enumerate" = none) (ha : EX X T E a m) (na : starEach (a :: []) X.env = (false, eval a X.env) :: starEach [] X.env := by rfl) (hs : starEach [a] X.env = [(false, eval a X.env)] := by rfl) : IX X T E (.Tuple elts kk tpos) (.Call (.Name "enumerate" p) [a] [] pos) (mEnum m) :=
  pi_imp (pi_enum hg hm (x_cons ha x_nil na) hs) fun σ H R ⟨g, st, env, s, en, h⟩ => by
    have hh : okR T X.K (fun g H xs J => Walks X.K J xs g H) g H ((mCons m mNil env st).bind fun xs s => match xs with
      | [x] => match asFL x with
        | some xs => .ok (enumP 0 xs) s
        | none => .bad
      | _ => .bad) R E := by
      simp only [mEnum] at h
      simp only [mCons, mNil]
      cases q : m env st with
      | ok x s1 => rw [q] at h; exact h
      | exc n fs s1 => rw [q] at h; exact h
      | bad => rw [q] at h; exact h
    refine tl_of s en hh fun g1 H1 st1 xs vs e1 s1 en1 r1 h1 => ?_
    split at h1
    · split at h1
      · rename_i ys e2
        cases r1 with
        | cons r l =>
          cases l
          obtain ⟨a, vs, rfl, h2, l2⟩ := asFL_ok r e2
          exact ⟨_, _, rfl, h2 _ _ (Ext.refl _ _), okR.fin h1 s1 (walks_E h2 l2)⟩
      · exact h1.elim
    · exact h1.elim
end
end Sim

set_option Elab.async false
set_option linter.all false
set_option maxRecDepth 100000
set_option maxHeartbeats 4000000
namespace Sim
open PySem PySem.Spec PyProof.Rows L2
variable [Tb] [Lm]

/-! ### statements -/
def cNil : MS := fun env st => .nx env st
def cSeq (a b : MS) : MS := fun env st => match a env st with
  | .nx e s => b e s
  | r => r
def cSet (t : Tgt) (m : M) : MS := fun env st => match m env st with
  | .ok x s => match t.run x env with
    | some e => .nx e s
    | none => .bad
  | .exc n fs s => .exc n fs s
  | .bad => .bad
def cExpr (m : M) : MS := fun env st => match m env st with
  | .ok _ s => .nx env s
  | .exc n fs s => .exc n fs s
  | .bad => .bad
def cRet (m : M) : MS := fun env st => match m env st with
  | .ok x s => .rt x s
  | .exc n fs s => .exc n fs s
  | .bad => .bad
def cRetN : MS := fun _ st => .rt .non st
def cIf (c : MB) (a b : MS) : MS := fun env st => match c env st with
  | .ok k s => if k = true then a env s else b env s
  | .exc n fs s => .exc n fs s
  | .bad => .bad
def cBreak : MS := fun env st => .bk env st
def cCont : MS := fun env st => .ct env st
def forGo (t : Tgt) (body : MS) : List PV → Lo → Sto → Out
  | [], env, st => .nx env st
  | x :: xs, env, st => match t.run x env with
    | none => .bad
    | some env1 => match body env1 st with
      | .nx e s => forGo t body xs e s
      | .ct e s => forGo t body xs e s
      | .bk e s => .nx e s
      | r => r
def cFor (it : iL) (t : Tgt) (body : MS) : MS := fun env st => match it env st with
  | .ok xs s => forGo t body xs env s
  | .exc n fs s => .exc n fs s
  | .bad => .bad
def whGo (c : MB) (body : MS) : Nat → Lo → Sto → Out
  | 0, _, _ => .bad
  | n + 1, env, st => match c env st with
    | .ok true s => match body env s with
      | .nx e s => whGo c body n e s
      | .ct e s => whGo c body n e s
      | .bk e s => .nx e s
      | r => r
    | .ok false s => .nx env s
    | .exc n fs s => .exc n fs s
    | .bad => .bad
def cWhile (n : Nat) (c : MB) (body : MS) : MS := whGo c body n
/-- x[i] = v, a list of the store -/
def sSetIx (o i v : PV) (st : Sto) : Res Unit := match o with
  | .ref k => match st[k]? with
    | some (.lst xs) => match i with
      | .int j => match ixN xs.length j with
        | some n => .ok () (st.set k (.lst (xs.set n v)))
        | none => .bad
      | _ => .bad
    | _ => .bad
  | _ => .bad
def cSetIx (o i v : M) : MS := fun env st => match (v env st).bind fun x s1 => (o env s1).bind fun y s2 => (i env s2).bind fun z s3 => sSetIx y z x s3 with
  | .ok _ s => .nx env s
  | .exc n fs s => .exc n fs s
  | .bad => .bad

section
variable {X : Cx} {T : String → Value} {E : XK} {e : Expr} {m : M} {st : Stmt} {rest : List Stmt} {a b : MS} {pos : Pos}
abbrev SX (X : Cx) (T : String → Value) (E : XK) (s : Stmt) (m : MS) : Prop := PS X s (TSt T X.K E m)
abbrev SXs (X : Cx) (T : String → Value) (E : XK) (s : List Stmt) (m : MS) : Prop := PSs X s (TSt T X.K E m)
theorem okS_E {K : PySem.W.Frag} {g : G} {H : Hp} {β : Type} {R : G → Hp → PV → β → Prop} {Q : β → Hp → Prop} {n : String} {fs : List (Str × PV)} {s : Sto} {D : Ends} (h : okS T K E g H (.exc n fs s) D) : okR T K R g H (.exc n fs s) Q E := h
theorem s_nil : SXs X T E [] cNil := pss_imp pss_nil fun D σ H ⟨g, st, env, s, en, h⟩ => h g H σ (Ext.refl _ _) s en
theorem s_cons (h1 : SX X T E st a) (h2 : SXs X T E rest b) : SXs X T E (st :: rest) (cSeq a b) := by
  refine pss_imp (pss_cons h1 h2) fun D σ H ⟨g, st, env, s, en, h⟩ => ⟨g, st, env, s, en, ?_⟩
  simp only [cSeq] at h
  cases q : a env st with
  | nx e s' => rw [q] at h; exact fun g' H' σ' e1 s1 en1 => ⟨g', s', e, s1, en1, okS.ext h e1⟩
  | rt x s' => rw [q] at h; exact h
  | bk e s' => rw [q] at h; exact h
  | ct e s' => rw [q] at h; exact h
  | exc n fs s' => rw [q] at h; exact h
  | bad => rw [q] at h; exact h
theorem s_one (h1 : SX X T E st a) : SXs X T E [st] a := pss_one h1
theorem s_pass : SX X T E (.Pass pos) cNil := ps_imp ps_pass fun D σ H ⟨g, st, env, s, en, h⟩ => h g H σ (Ext.refl _ _) s en
theorem s_break : SX X T E (.Break pos) cBreak := ps_imp ps_break fun D σ H ⟨g, st, env, s, en, h⟩ => h g H σ (Ext.refl _ _) s en
theorem s_cont : SX X T E (.Continue pos) cCont := ps_imp ps_continue fun D σ H ⟨g, st, env, s, en, h⟩ => h g H σ (Ext.refl _ _) s en
theorem s_expr (he : EX X T E e m) (hs : swapsWith e none pos.line X.env = pure false := by rfl) : SX X T E (.Expr e pos) (cExpr m) := by
  refine ps_imp (ps_expr he hs) fun D σ H ⟨g, st, env, s, en, h⟩ => ⟨g, st, env, s, en, ?_⟩
  simp only [cExpr] at h
  cases q : m env st with
  | ok x s' => rw [q] at h; exact fun g' H' v e1 s1 _ => h g' H' σ e1 s1 (en.mono e1)
  | exc n fs s' => rw [q] at h; exact h
  | bad => rw [q] at h; exact h
theorem s_ret (he : EX X T E e m) : SX X T E (.Return (some e) pos) (cRet m) := by
  refine ps_imp (ps_ret he) fun D σ H ⟨g, st, env, s, en, h⟩ => ⟨g, st, env, s, en, ?_⟩
  simp only [cRet] at h
  cases q : m env st with
  | ok x s' => rw [q] at h; exact fun g' H' v e1 s1 r1 => h g' H' v e1 s1 r1
  | exc n fs s' => rw [q] at h; exact h
  | bad => rw [q] at h; exact h
theorem s_retN : SX X T E (.Return none pos) cRetN := ps_imp ps_retN fun D σ H ⟨g, st, env, s, en, h⟩ => h g H .non (Ext.refl _ _) s .non
theorem s_if {c : Expr} {as bs : List Stmt} {mc : MB} (hc : TX X T E c mc) (ha : SXs X T E as a) (hb : SXs X T E bs b) : SX X T E (.If c as bs pos) (cIf mc a b) := by
  refine ps_imp (ps_if hc ha hb) fun D σ H ⟨g, st, env, s, en, h⟩ => ⟨g, st, env, s, en, ?_⟩
  simp only [cIf] at h
  cases q : mc env st with
  | ok k s' =>
    rw [q] at h
    intro g' H' k' e1 s1 ek
    subst ek
    cases k with
    | true => rw [if_pos rfl]; exact ⟨g', s', env, s1, en.mono e1, okS.ext (by simpa using h) e1⟩
    | false => rw [if_neg Bool.false_ne_true]; exact ⟨g', s', env, s1, en.mono e1, okS.ext (by simpa using h) e1⟩
  | exc n fs s' => rw [q] at h; exact h
  | bad => rw [q] at h; exact h
theorem set_core {t : Tgt} {D : Ends} {σ : L2.St} {H : Hp} {tg : TG} (htg : tg = tgR X.K t) (h : TSt T X.K E (cSet t m) D σ H) : TV T X.K E m σ H fun x H1 => tg x σ H1 D.nx := by
  subst htg
  obtain ⟨g, st, env, s, en, h⟩ := h
  refine ⟨g, st, env, s, en, ?_⟩
  simp only [cSet] at h
  cases q : m env st with
  | ok x s' =>
    rw [q] at h
    dsimp only at h
    intro g' H' v e1 s1 r1
    cases q2 : t.run x env with
    | none => rw [q2] at h; exact h.elim
    | some env' =>
      rw [q2] at h
      exact tg_ok (en.mono e1) r1 q2 fun σ' en' _ => h g' H' σ' e1 s1 en'
  | exc n fs s' => rw [q] at h; exact h
  | bad => rw [q] at h; exact h
theorem s_set {i : Nat} {x : Str} {pos' : Pos} (hN : X.N.Nodup) (hi : X.N[i]? = some x) (hx : Loc X.env.scope x) (he : EX X T E e m) (hs : swapsWith e (some (.Name x pos')) pos.line X.env = pure false := by rfl)
    (hf : X.fn x = true ∨ X.env.scope.names.lookup x = some .local := by first | exact .inl rfl | exact .inr rfl) : SX X T E (.Assign [.Name x pos'] e pos) (cSet (.one i) m) :=
  ps_imp (ps_set hN hi hx he hs hf) fun D σ H h => set_core rfl h
theorem s_asg {tg : Expr} {t : Tgt} (he : EX X T E e m) (hg : GX X tg t) (hs : swapsWithSole [tg] e pos.line X.env = pure false := by rfl) (hw : swappedStores [tg] e X.env = pure none := by rfl)
    (h1 : (assignEach [tg] X.env).map (·.2) = [assign tg X.env] := by rfl) : SX X T E (.Assign [tg] e pos) (cSet t m) :=
  ps_imp (ps_asg he hg hs hw h1) fun D σ H h => set_core rfl h
/-- a, b = x, y of plain locals -/
def cPar (i j : Nat) (ms : ML) : MS := fun env st => match ms env st with
  | .ok [x, y] s => .nx ((env.set i (some x)).set j (some y)) s
  | .ok _ _ => .bad
  | .exc n fs s => .exc n fs s
  | .bad => .bad
theorem s_par {i j : Nat} {x y : Str} {ea eb : Expr} {ms : ML} {px py pt : Pos} {kt k2 pt2} (hc : X.calm = true) (hN : X.N.Nodup) (hi : X.N[i]? = some x) (hj : X.N[j]? = some y) (hij : i ≠ j)
    (hx : X.env.scope.names.lookup x = some .local) (hy : X.env.scope.names.lookup y = some .local) (ha : AX X T E [ea, eb] ms) (hw : swappedStores [.Tuple [.Name x px, .Name y py] kt pt] (.Tuple [ea, eb] k2 pt2) X.env = pure (some [x, y]))
    (hs : swapsWithSole [.Tuple [.Name x px, .Name y py] kt pt] (.Tuple [ea, eb] k2 pt2) pos.line X.env = pure false := by rfl) : SX X T E (.Assign [.Tuple [.Name x px, .Name y py] kt pt] (.Tuple [ea, eb] k2 pt2) pos) (cPar i j ms) := by
  refine ps_imp (ps_par hc hN hi hj hij hx hy ha hw hs) fun D σ H ⟨g, st, env, s, en, h⟩ => ⟨g, st, env, s, en, ?_⟩
  simp only [cPar] at h
  cases q : ms env st with
  | ok xs s' =>
    rw [q] at h
    intro g' H' vs e1 s1 r1
    split at h
    · rename_i x y s2 q2
      cases q2
      cases r1 with
      | cons r l => cases l with
        | cons r' l' =>
          cases l'
          exact ⟨_, _, rfl, h g' H' _ e1 s1 (((en.mono e1).set r i).set r' j)⟩
    · exact h.elim
    · rename_i q2; cases q2
    · rename_i q2; cases q2
  | exc n fs s' => rw [q] at h; exact h
  | bad => rw [q] at h; exact h
theorem s_setIx {o i : Expr} {mo mi : M} {pos' : Pos} (hv : EX X T E e m) (ho : EX X T E o mo) (hi : EX X T E i mi) (hs : swapsWithSole [.Subscript o i pos'] e pos.line X.env = pure false := by rfl) (hw : swappedStores [.Subscript o i pos'] e X.env = pure none := by rfl)
    (h1 : (assignEach [.Subscript o i pos'] X.env).map (·.2) = [assign (.Subscript o i pos') X.env] := by rfl)
    (hb : ∀ v, assign (.Subscript o i pos') X.env v = (do
      let ov ← holding [v] (eval o X.env)
      let iv ← holding [v, ov] (eval i X.env)
      standAt pos'
      holding [v, ov, iv] (setItem ov iv v)
      release [v, ov, iv] []) := by intro _; rfl) : SX X T E (.Assign [.Subscript o i pos'] e pos) (cSetIx mo mi m) := by
  refine ps_imp (ps_asg hv (pg_sub ho hi set_list hb) hs hw h1) fun D σ H ⟨g, st, env, s, en, h⟩ => ?_
  have hh : okR T X.K (fun g H _ (_ : Unit) => EnvOk X.K g H env σ) g H ((m env st).bind fun x s1 => (mo env s1).bind fun y s2 => (mi env s2).bind fun z s3 => sSetIx y z x s3) (fun _ H' => D.nx σ H') E := by
    simp only [cSetIx] at h
    generalize hq : ((m env st).bind fun x s1 => (mo env s1).bind fun y s2 => (mi env s2).bind fun z s3 => sSetIx y z x s3) = r at h
    cases r with
    | ok u s' => exact fun g' H' _ e1 s1 en1 => h g' H' σ e1 s1 en1
    | exc n fs s' => exact h
    | bad => exact h
  refine tv_of s en hh fun g1 H1 st1 x v e1 s1 en1 r1 h1 => tv_of s1 en1 h1 fun g2 H2 st2 y w e2 s2 en2 r2 h2 => tv_of s2 en2 h2 fun g3 H3 st3 z u e3 s3 en3 r3 h3 => ?_
  cases y with
  | ref k =>
    simp only [sSetIx] at h3
    split at h3
    · rename_i xs q
      split at h3
      · split at h3
        · rename_i n hn
          cases r3
          cases r2 with
          | ref hk =>
            have ef : g3.f k = g2.f k := e3.f k hk
            obtain ⟨vs, hH, l⟩ := s3.at_ k _ q
            have xe := ext_write (o := .lst (vs.set n v)) s3 q rfl
            have rx := (r1.mono (e2.trans e3))
            refine ⟨g3.f k, vs, _, n, by rw [ef], rfl, hH, by rw [← l.length]; exact hn, ?_⟩
            exact h3 g3 _ () xe (st_write s3 q rfl ⟨_, upd_same, (l.set rx n).mono xe⟩) (en3.mono xe)
        · exact h3.elim
      · exact h3.elim
    · exact h3.elim
  | _ => exact h3.elim
theorem s_for {tg iter : Expr} {t : Tgt} {mi : iL} {body : List Stmt} (hp : PassesOwn (model X.prog X.w) X.A X.env X.xe) (hc : X.calm = true) (hi : IX X T E tg iter mi) (hg : GX X tg t) (hb : SXs X T E body a) (hs : ∀ x, foldedSetIterable iter X.env x = pure x := by intro _; rfl) :
    SX X T E (.For tg iter body [] pos) (cFor mi t a) := by
  refine ps_imp (ps_for hp hc hi hg hb hs) fun D σ H ⟨g, st, env, s, en, h⟩ => ⟨g, st, env, s, en, ?_⟩
  simp only [cFor] at h
  cases q : mi env st with
  | exc n fs s' => rw [q] at h; exact h
  | bad => rw [q] at h; exact h
  | ok xs s' =>
    rw [q] at h
    intro g1 H1 J e1 s1 wk
    refine ⟨fun i m σ H => i + m = xs.length ∧ ∃ g st env, Ext g1 H1 g H ∧ StOk X.K g H st ∧ EnvOk X.K g H env σ ∧ okS T X.K E g H (forGo t a (xs.drop i) env st) D, ⟨xs.length, by omega, g1, s', env, Ext.refl _ _, s1, en.mono e1, okS.ext h e1⟩, ?_⟩
    rintro i m σ H ⟨hm, g, st, env, e2, s2, en2, h2⟩
    obtain ⟨w1, w2⟩ := wk g H st e2 s2 i
    by_cases hlt : i < xs.length
    · have hx : xs[i]? = some xs[i] := List.getElem?_eq_getElem hlt
      obtain ⟨go, yl⟩ := w2 _ hx
      have hd : xs.drop i = xs[i] :: xs.drop (i + 1) := List.drop_eq_getElem_cons hlt
      rw [hd] at h2
      simp only [forGo] at h2
      refine .inr ⟨go, fun σ' H' => ∃ g st env, Ext g1 H1 g H' ∧ StOk X.K g H' st ∧ EnvOk X.K g H' env σ' ∧ okS T X.K E g H' (forGo t a (xs.drop (i + 1)) env st) D, fun σ' H' n => ⟨m - 1, by omega, by omega, n⟩, fun v H' y => ?_⟩
      obtain ⟨e3, s3, r3⟩ := yl v H' y
      cases q2 : t.run xs[i] env with
      | none => rw [q2] at h2; exact h2.elim
      | some env1 =>
        rw [q2] at h2
        refine tg_ok (en2.mono e3) r3 q2 fun σ2 en4 _ => ⟨g, st, env1, s3, en4, ?_⟩
        simp only at h2
        cases q3 : a env1 st with
        | nx e s' => rw [q3] at h2; exact fun g' H'' σ' e4 s4 en5 => ⟨g', s', e, e2.trans (e3.trans e4), s4, en5, okS.ext h2 (e3.trans e4)⟩
        | ct e s' => rw [q3] at h2; exact fun g' H'' σ' e4 s4 en5 => ⟨g', s', e, e2.trans (e3.trans e4), s4, en5, okS.ext h2 (e3.trans e4)⟩
        | bk e s' => rw [q3] at h2; exact okS.ext (r := .nx e s') h2 e3
        | rt x s' => rw [q3] at h2; exact okS.ext (r := .rt x s') h2 e3
        | exc n fs s' => rw [q3] at h2; exact okS.ext (r := .exc n fs s') h2 e3
        | bad => rw [q3] at h2; exact h2
    · have hd : xs.drop i = [] := List.drop_eq_nil_of_le (by omega)
      rw [hd] at h2
      exact .inl ⟨w1 (by omega), h2 g H σ (Ext.refl _ _) s2 en2⟩
theorem s_while (n : Nat) {c : Expr} {mc : MB} {body : List Stmt} (hp : PassesOwn (model X.prog X.w) X.A X.env X.xe) (hc : TX X T E c mc) (hb : SXs X T E body a) : SX X T E (.While c body [] pos) (cWhile n mc a) := by
  refine ps_imp (ps_while hp hc hb) fun D σ H ⟨g, st, env, s, en, h⟩ => ?_
  refine ⟨fun m σ H => ∃ g st env, StOk X.K g H st ∧ EnvOk X.K g H env σ ∧ okS T X.K E g H (whGo mc a m env st) D, ⟨n, g, st, env, s, en, h⟩, ?_⟩
  rintro m σ H ⟨g, st, env, s, en, h⟩
  cases m with
  | zero => exact h.elim
  | succ m =>
    simp only [whGo] at h
    refine ⟨g, st, env, s, en, ?_⟩
    cases q : mc env st with
    | exc n fs s' => rw [q] at h; exact h
    | bad => rw [q] at h; exact h
    | ok k s1 =>
      rw [q] at h
      intro g1 H1 k' e1 s2 ek
      subst ek
      cases k with
      | false => rw [if_neg Bool.false_ne_true]; exact h g1 H1 σ e1 s2 (en.mono e1)
      | true =>
        rw [if_pos rfl]
        refine ⟨fun σ' H' => ∃ g st env, StOk X.K g H' st ∧ EnvOk X.K g H' env σ' ∧ okS T X.K E g H' (whGo mc a m env st) D, fun σ' H' w => ⟨m, Nat.lt_succ_self m, w⟩, g1, s1, env, s2, en.mono e1, ?_⟩
        simp only at h
        cases q3 : a env s1 with
        | nx e s' => rw [q3] at h; exact fun g' H'' σ' e4 s4 en5 => ⟨g', s', e, s4, en5, okS.ext h (e1.trans e4)⟩
        | ct e s' => rw [q3] at h; exact fun g' H'' σ' e4 s4 en5 => ⟨g', s', e, s4, en5, okS.ext h (e1.trans e4)⟩
        | bk e s' => rw [q3] at h; exact okS.ext (r := .nx e s') h e1
        | rt x s' => rw [q3] at h; exact okS.ext (r := .rt x s') h e1
        | exc n fs s' => rw [q3] at h; exact okS.ext (r := .exc n fs s') h e1
        | bad => rw [q3] at h; exact h
end
end Sim

set_option Elab.async false
set_option linter.all false
set_option maxRecDepth 100000
set_option maxHeartbeats 4000000
namespace Sim
open PySem PySem.Spec PyProof.Rows L2
variable [Tb] [Lm]

/-! ### list comprehensions -/
def Res.only {α : Type} : Res α → Res α
  | .ok a s => .ok a s
  | _ => .bad
def wipeL (env : Lo) : List Nat → Lo
  | [] => env
  | v :: vs => (wipeL env vs).set v none
def lcGo (t : Tgt) (c : MB) (m : M) (env0 : Lo) : List PV → Sto → Res (List PV)
  | [], st => .ok [] st
  | x :: xs, st => match t.run x env0 with
    | none => .bad
    | some env1 => (c env1 st).only.bind fun b s1 => if b = true then (m env1 s1).only.bind fun y s2 => (lcGo t c m env0 xs s2).bind fun ys s3 => .ok (y :: ys) s3 else lcGo t c m env0 xs s1
def mLc (it : iL) (t : Tgt) (c : MB) (m : M) (vs : List Nat) : M := fun env st => (it env st).bind fun xs s1 => if fitL xs then (lcGo t c m (wipeL env vs) xs s1).bind fun ys s2 => .ok (.lst ys) s2 else .bad
def bYes : MB := fun _ st => .ok true st

section
variable {T : String → Value} {K : PySem.W.Frag} {E E' : XK}
theorem okR.stepB {α β γ δ : Type} {R : G → Hp → α → β → Prop} {R' : G → Hp → γ → δ → Prop} {g1 g : G} {H1 H : Hp} {r' : Res γ} {k : γ → Sto → Res α} {Q : β → Hp → Prop} (h : okR T K R g1 H1 (r'.only.bind k) Q E) (e : Ext g1 H1 g H) :
    okR T K R' g H r' (fun v H2 => ∃ g2 st2 x, Ext g H g2 H2 ∧ StOk K g2 H2 st2 ∧ R' g2 H2 x v ∧ okR T K R g1 H1 (k x st2) Q E) E' := by
  cases r' with
  | ok x st => exact fun g2 H2 v e2 s2 r2 => ⟨g2, st, x, e2, s2, r2, h⟩
  | exc n fs st => exact h.elim
  | bad => exact h.elim
/-- D is guarded -/
def G.grd (g : G) (D : Addr) : G := { g with P := fun a => g.P a ∨ a = D }
def G.ungrd (g : G) (D : Addr) : G := { g with P := fun a => g.P a ∧ a ≠ D }
theorem ext_grd {g : G} {H : Hp} {D : Addr} : Ext g H (g.grd D) H := ⟨⟨Nat.le_refl _, fun _ _ => rfl, fun a h => ⟨h, rfl⟩, fun _ _ _ h => h⟩, fun a h => ⟨.inl h, rfl⟩⟩
theorem st_grd {g : G} {H : Hp} {D : Addr} {st : Sto} (s : StOk K g H st) (h1 : nt H D) (h2 : ¬ g.F D) (h3 : ∀ i, i < g.n → g.f i ≠ D) : StOk K (g.grd D) H st :=
  ⟨s.len, s.inj, s.sep, s.fz, fun a h => h.elim (s.pr a) fun e => by subst e; exact ⟨h1, h2, h3⟩, fun i m e => (s.at_ i m e).keep ext_grd rfl, s.tb⟩
theorem MOk.keepW {g g' : G} {H H' : Hp} {a : Addr} {m : MO} (h : MOk K g H a m) (e : ExtW g H g' H') (k : H' a = H a) : MOk K g' H' a m := by
  cases m with
  | lst xs => obtain ⟨vs, q, r⟩ := h; exact ⟨vs, k.trans q, r.monoW e⟩
  | dct xs => obtain ⟨vs, q, r⟩ := h; exact ⟨vs, k.trans q, r.monoW e⟩
  | dead => exact nt.of h k
/-- what is guarded may be changed by who guards it -/
theorem ext_un {g : G} {H : Hp} {D : Addr} {o : HO} {vs : List V} {st : Sto} (s : StOk K g H st) (gd : g.P D) (hD : H D = some (.lst vs)) : ExtW g H (g.ungrd D) (upd H D o) := by
  refine ⟨Nat.le_refl _, fun _ _ => rfl, fun a h => ⟨h, upd_ne fun e => (s.pr D gd).2.1 (e ▸ h)⟩, fun a u tu h => ?_⟩
  have ne : a ≠ D := fun e => by
    subst e
    rw [hD] at h; cases h; cases tu
  rw [upd_ne ne]; exact h
theorem tabs_at {H : Hp} {D : Addr} {o u : HO} (t : LamX.Tabs Tb.tabs H) (hD : H D = some u) (hu : (∃ xs, u = .lst xs) ∨ ∃ xs, u = .dK xs) : LamX.Tabs Tb.tabs (upd H D o) := tabs_up t fun b v h n1 n2 => by
  have ne : b ≠ D := fun q => by
    subst q
    rw [hD] at h
    cases h
    rcases hu with ⟨xs, e⟩ | ⟨xs, e⟩
    · exact n1 _ e
    · exact n2 _ e
  rw [upd_ne ne]; exact h
theorem st_un {g : G} {H : Hp} {D : Addr} {o : HO} {vs : List V} {st : Sto} (s : StOk K g H st) (gd : g.P D) (hD : H D = some (.lst vs)) : StOk K (g.ungrd D) (upd H D o) st := by
  have x := ext_un (o := o) s gd hD
  refine ⟨s.len, s.inj, s.sep, fun a h => ?_, fun a h => ⟨?_, (s.pr a h.1).2⟩, fun i m e => (s.at_ i m e).keepW x (upd_ne ((s.pr D gd).2.2 i (s.lt e))), tabs_at s.tb hD (.inl ⟨_, rfl⟩)⟩
  · exact (s.fz a h).of (x.F a h).2
  · exact (s.pr a h.1).1.of (upd_ne h.2)
theorem ext_back {g1 g : G} {H1 H : Hp} {D : Addr} {o : HO} {vs : List V} {st st1 : Sto} (s1 : StOk K g1 H1 st1) (e : Ext g1 H1 g H) (s : StOk K g H st) (n1 : H1 D = none) (gd : g.P D) (hD : H D = some (.lst vs)) : Ext g1 H1 (g.ungrd D) (upd H D o) := by
  refine ⟨e.toExtW.trans (ext_un s gd hD), fun a h => ?_⟩
  have ne : a ≠ D := fun z => (s1.pr a h).1.ne (z ▸ n1)
  exact ⟨⟨(e.P a h).1, ne⟩, by rw [upd_ne ne]; exact (e.P a h).2⟩
theorem EnvOk.wipe {g : G} {H : Hp} {env : Lo} {σ : L2.St} (en : EnvOk K g H env σ) : ∀ vs : List Nat, (∀ v ∈ vs, Lm.at_ v = none) → EnvOk K g H (wipeL env vs) (wipe σ vs)
  | [], _ => en
  | v :: vs, hlm => by
    have ih := en.wipe vs fun w hw => hlm w (List.mem_cons_of_mem _ hw)
    refine ⟨by simp [L2.wipe, wipeL, ih.len], fun i x q => ?_, fun i a q1 q2 => ?_⟩
    rotate_left
    · have ne : v ≠ i := fun z => by
        subst z
        rw [hlm v List.mem_cons_self] at q1
        cases q1
      simp only [wipeL] at q2
      rw [List.getElem?_set_ne ne] at q2
      simp only [L2.wipe]
      rw [List.getElem?_set_ne ne]
      exact ih.lm i a q1 q2
    by_cases e : v = i
    · subst e
      simp only [wipeL] at q
      by_cases hv : v < (wipeL env vs).length
      · rw [List.getElem?_set_self hv] at q; cases q
      · rw [List.getElem?_eq_none (by simpa using hv)] at q; cases q
    · simp only [wipeL] at q
      rw [List.getElem?_set_ne e] at q
      obtain ⟨w, h1, h2⟩ := ih.at_ i x q
      exact ⟨w, by simp only [L2.wipe]; rw [List.getElem?_set_ne e]; exact h1, h2⟩
theorem upd_id {H : Hp} {D : Addr} {o : HO} (h : H D = some o) : upd H D o = H := by
  funext b
  by_cases e : b = D
  · subst e; rw [upd_same, h]
  · rw [upd_ne e]
/-- the walk through the list, by the mirror -/
theorem lc_core' {wi : TI} {mi : iL} {t : Tgt} {c : MB} {m : M} {vs : List Nat} {te : TE} {tt : TT} (hte : te = TV T K (fun _ _ _ => False) m) (htt : tt = TB T K (fun _ _ _ => False) c) (hwi : wi = TI' T K E mi) (hsl : ∀ i ∈ t.slots, i ∈ vs) (hlm : ∀ v ∈ vs, Lm.at_ v = none) {σ : L2.St} {H : Hp} {Q : VK} (h : TV T K E (mLc mi t c m vs) σ H Q) : tLc wi (tgR K t) tt te vs σ H Q := by
  subst hte htt hwi
  obtain ⟨g, st, env, s, en, h⟩ := h
  refine ⟨g, st, env, s, en, h.step.imp fun J H1 ⟨g1, s1, xs, e1, so1, wk, h1⟩ => ?_⟩
  have en1 := en.mono e1
  intro D hD
  split at h1
  · rename_i hf
    have hlen : xs.length ≤ sizeLine := fitL_ok hf
    have start : ∀ (g : G) (H : Hp) (st : Sto) (acc : List PV) (ws : List V), Ext g1 H1 g H → StOk K g H st → H D = some (.lst ws) → RVL K g H acc ws → ¬ g.F D → (∀ i, i < g.n → g.f i ≠ D) →
        okR T K (rV K) g1 H1 (.ok (.lst acc) st) Q E → Q (.ref D) H := fun g H st acc ws e s hd l nf ni q => by
      have x : Ext g H (g.frz D) H := ⟨⟨Nat.le_refl _, fun _ _ => rfl, fun a h => ⟨.inl h, rfl⟩, fun _ _ _ h => h⟩, fun a h => ⟨h, rfl⟩⟩
      by_cases hp : g.P D
      · have e2 := ext_back (o := .lst ws) so1 e s hD hp hd
        have s2 := st_un (o := .lst ws) s hp hd
        have x2 := ext_un (o := .lst ws) s hp hd
        rw [upd_id hd] at e2 s2 x2
        have x3 : Ext (g.ungrd D) H ((g.ungrd D).frz D) H := ⟨⟨Nat.le_refl _, fun _ _ => rfl, fun a h => ⟨.inl h, rfl⟩, fun _ _ _ h => h⟩, fun a h => ⟨h, rfl⟩⟩
        refine okR.finE q (e2.trans x3) ⟨s2.len, s2.inj, fun i m e al h => h.elim (s2.sep i m e al) (fun z => ni i (s2.lt e) z), fun a h => h.elim (s2.fz a) fun z => by subst z; exact ⟨_, hd, nofun⟩, fun a h => ⟨(s2.pr a h).1, fun z => z.elim (s2.pr a h).2.1 h.2, (s2.pr a h).2.2⟩, fun i m e => (s2.at_ i m e).keep x3 rfl, s2.tb⟩ (.lst (.inr rfl) hd ((l.monoW x2).mono x3))
      · refine okR.finE q (e.trans x) ⟨s.len, s.inj, fun i m e al h => h.elim (s.sep i m e al) (fun z => ni i (s.lt e) z), fun a h => h.elim (s.fz a) fun z => by subst z; exact ⟨_, hd, nofun⟩, fun a h => ⟨(s.pr a h).1, fun z => z.elim (s.pr a h).2.1 fun z => hp (z ▸ h), (s.pr a h).2.2⟩, fun i m e => (s.at_ i m e).keep x rfl, s.tb⟩ (.lst (.inr rfl) hd (l.mono x))
    refine ⟨fun i n H => i + n = xs.length ∧ ∃ g st acc ws, Ext g1 H1 g H ∧ StOk K g H st ∧ H D = some (.lst ws) ∧ RVL K g H acc ws ∧ ¬ g.F D ∧ (∀ i, i < g.n → g.f i ≠ D) ∧ acc.length ≤ i ∧
      okR T K (rV K) g1 H1 ((lcGo t c m (wipeL env vs) (xs.drop i) st).bind fun ys s2 => .ok (.lst (acc ++ ys)) s2) Q E, ⟨xs.length, by omega, g1, s1, [], [], ext_new so1 hD, st_new so1 hD, upd_same, .nil, fun z => (so1.fz D z).ne hD, fun i hi z => ?_, Nat.zero_le _, by simpa using h1⟩, ?_⟩
    · have hi' : i < s1.length := by rw [← so1.len]; exact hi
      exact (so1.at_ i s1[i] (List.getElem?_eq_getElem hi')).there (z ▸ hD)
    · rintro i n H ⟨hn, g, st, acc, ws, e, s, hd, l, nf, ni, hacc, h⟩
      obtain ⟨w1, w2⟩ := wk g H st e s i
      by_cases hlt : i < xs.length
      · have hx : xs[i]? = some xs[i] := List.getElem?_eq_getElem hlt
        have hdr : xs.drop i = xs[i] :: xs.drop (i + 1) := List.drop_eq_getElem_cons hlt
        rw [hdr] at h
        obtain ⟨go, _⟩ := w2 _ hx
        refine .inr ⟨go, fun H' => ∃ g st acc ws, Ext g1 H1 g H' ∧ StOk K g H' st ∧ H' D = some (.lst ws) ∧ RVL K g H' acc ws ∧ ¬ g.F D ∧ (∀ i, i < g.n → g.f i ≠ D) ∧ acc.length ≤ i + 1 ∧
          okR T K (rV K) g1 H1 ((lcGo t c m (wipeL env vs) (xs.drop (i + 1)) st).bind fun ys s2 => .ok (.lst (acc ++ ys)) s2) Q E, fun H' w => ⟨n - 1, by omega, by omega, w⟩, fun v H' y => ?_⟩
        -- the guard
        have sg : StOk K (g.grd D) H st := st_grd s ⟨_, hd, nofun⟩ nf ni
        have eg : Ext g1 H1 (g.grd D) H := e.trans ext_grd
        obtain ⟨_, w4⟩ := wk (g.grd D) H st eg sg i
        obtain ⟨e3, s3, r3⟩ := (w4 _ hx).2 v H' y
        have gD3 : (g.grd D).P D := .inr rfl
        simp only [lcGo] at h
        cases q2 : t.run xs[i] (wipeL env vs) with
        | none => rw [q2] at h; exact h.elim
        | some env1 =>
          rw [q2] at h
          dsimp only at h
          refine tg_ok ((en1.mono (eg.trans e3)).wipe vs hlm) r3 q2 fun σ2 en4 wp => ⟨?_, g.grd D, st, env1, s3, en4, ?_⟩
          · rw [wp vs hsl]
            have : ∀ us : List Nat, (∀ u ∈ us, u ∈ vs) → wipe (wipe σ vs) us = wipe σ vs := by
              intro us
              induction us with
              | nil => intro _; rfl
              | cons u us ih =>
                intro hu
                show (wipe (wipe σ vs) us).set u none = _
                rw [ih fun w hw => hu w (List.mem_cons_of_mem _ hw)]
                have idm : ∀ (ws : List Nat), u ∈ ws → (wipe σ ws).set u none = wipe σ ws := by
                  intro ws
                  induction ws with
                  | nil => intro z; cases z
                  | cons a ws ih2 =>
                    intro z
                    show ((wipe σ ws).set a none).set u none = (wipe σ ws).set a none
                    by_cases ea : a = u
                    · subst ea; rw [List.set_set]
                    · rw [List.set_comm _ _ ea, ih2 ((List.mem_cons.mp z).resolve_left fun q => ea q.symm)]
                exact idm vs (hu u List.mem_cons_self)
            exact this vs fun _ hu => hu
          · have hA : okR T K (rV K) g1 H1 ((c env1 st).only.bind fun b s1 => (if b = true then (m env1 s1).only.bind fun y s2 => (lcGo t c m (wipeL env vs) (xs.drop (i + 1)) s2).bind fun ys s3 => .ok (y :: ys) s3 else lcGo t c m (wipeL env vs) (xs.drop (i + 1)) s1).bind fun ys s2 => .ok (.lst (acc ++ ys)) s2) Q E := by
              cases qc : c env1 st with
              | ok b s1 => rw [qc] at h; exact h
              | exc n fs s1 => rw [qc] at h; exact h
              | bad => rw [qc] at h; exact h
            have ge3 : Ext g1 H1 (g.grd D) H' := eg.trans e3
            refine (hA.stepB (R' := rB) ge3).imp fun b H4 ⟨g4, st4, b', e4, s4, eb, h4⟩ => ?_
            subst eb
            have gD4 : g4.P D := (e4.P D gD3).1
            have hD4 : H4 D = some (.lst ws) := by rw [(e4.P D gD3).2, (e3.P D gD3).2]; exact hd
            have l4 : RVL K g4 H4 acc ws := (l.mono (ext_grd.trans e3)).mono e4
            cases b' with
            | false =>
              rw [if_neg Bool.false_ne_true] at h4 ⊢
              have e5 := ext_back (o := .lst ws) so1 (ge3.trans e4) s4 hD gD4 hD4
              have s5 := st_un (o := .lst ws) s4 gD4 hD4
              have x5 := ext_un (o := .lst ws) s4 gD4 hD4
              rw [upd_id hD4] at e5 s5 x5
              exact ⟨g4.ungrd D, st4, acc, ws, e5, s5, hD4, l4.monoW x5, (s4.pr D gD4).2.1, (s4.pr D gD4).2.2, by omega, h4⟩
            | true =>
              rw [if_pos rfl] at h4 ⊢
              refine ⟨g4, st4, env1, s4, en4.mono e4, ?_⟩
              have hB : okR T K (rV K) g1 H1 ((m env1 st4).only.bind fun y s2 => (lcGo t c m (wipeL env vs) (xs.drop (i + 1)) s2).bind fun ys s3 => .ok (.lst (acc ++ (y :: ys))) s3) Q E := by
                cases qm : m env1 st4 with
                | ok y s2 =>
                  rw [qm] at h4
                  simp only [Res.only, Res.bind_ok] at h4 ⊢
                  cases ql : lcGo t c m (wipeL env vs) (xs.drop (i + 1)) s2 with
                  | ok ys s3 => rw [ql] at h4; exact h4
                  | exc n fs s3 => rw [ql] at h4; exact h4
                  | bad => rw [ql] at h4; exact h4
                | exc n fs s1 => rw [qm] at h4; exact h4
                | bad => rw [qm] at h4; exact h4
              refine (hB.stepB (R' := rV K) (ge3.trans e4)).imp fun y H5 ⟨g5, st5, yy, e5, s5, ry, h5⟩ => ?_
              have gD5 : g5.P D := (e5.P D gD4).1
              have hD5 : H5 D = some (.lst ws) := by rw [(e5.P D gD4).2]; exact hD4
              have x6 := ext_un (o := .lst (ws ++ [y])) s5 gD5 hD5
              refine ⟨ws, hD5, ?_, g5.ungrd D, st5, acc ++ [yy], ws ++ [y], ext_back so1 ((ge3.trans e4).trans e5) s5 hD gD5 hD5, st_un s5 gD5 hD5, upd_same, ?_, (s5.pr D gD5).2.1, (s5.pr D gD5).2.2, by simp; omega, ?_⟩
              · rw [← l.length]; omega
              · exact ((l4.mono e5).append (.cons ry .nil)).monoW x6
              · simpa using h5
      · have hdr : xs.drop i = [] := List.drop_eq_nil_of_le (by omega)
        rw [hdr] at h
        refine .inl ⟨w1 (by omega), start g H st acc ws e s hd l nf ni ?_⟩
        simpa [lcGo] using h
  · exact h1.elim
end
section
variable {X : Cx} {T : String → Value} {E : XK} {elt tg iter : Expr} {ifs : List Expr} {scope : Scope} {own : List (Str × Nat)} {pos : Pos} {mi : iL} {t : Tgt} {c : MB} {m : M}
abbrev CX' (X : Cx) (T : String → Value) (es : List Expr) (c : MB) : Prop := PTs X es (TB T X.K (fun _ _ _ => False) c)
theorem c_nil : CX' X T [] bYes := ⟨fun pins s σ H Q I ⟨g, st, env, so, en, h⟩ => pts_nil.run pins s σ H Q I (okR.fin h so rfl)⟩
theorem c_one {e : Expr} (h : TX X T (fun _ _ _ => False) e c) : CX' X T [e] c := pts_one h
theorem x_lc (hc : X.calm = true) (hN : X.N.Nodup) (hi : IX X T E tg iter mi) (ok : BlkOk X.N X.env.scope scope own)
    (hg : ∀ (s : Shared) (H : Hp) (C : Addr) (cl : List (Str × Addr)) (fp : List Addr), GX (X.blk s H scope (compEnvC scope cl C X.env) fp) tg t) (ht : ∀ (s : Shared) (H : Hp) (C : Addr) (cl : List (Str × Addr)) (fp : List Addr), CX' (X.blk s H scope (compEnvC scope cl C X.env) fp) T ifs c)
    (he : ∀ (s : Shared) (H : Hp) (C : Addr) (cl : List (Str × Addr)) (fp : List Addr), EX (X.blk s H scope (compEnvC scope cl C X.env) fp) T (fun _ _ _ => False) elt m) (hsl : ∀ i ∈ t.slots, i ∈ own.map (·.2)) (hs : ∀ x, foldedSetIterable iter X.env x = pure x := by intro _; rfl) (hlm : ∀ v ∈ own.map (·.2), Lm.at_ v = none := by first | exact fun _ _ => rfl | decide) :
    EX X T E (.ListComp elt [⟨tg, iter, ifs, 0⟩] scope pos) (mLc mi t c m (own.map (·.2))) :=
  pe_imp (pe_lc hc hN hi ok hg ht he hs) fun σ H Q h => lc_core' rfl rfl rfl hsl hlm h
/-- y = [..] on one line -/
theorem s_setLc {i : Nat} {y : Str} {py spos : Pos} (hc : X.calm = true) (hN : X.N.Nodup) (hy : X.N[i]? = some y) (hyl : X.env.scope.names.lookup y = some .local)
    (hsw : swapsWith (.ListComp elt [⟨tg, iter, ifs, 0⟩] scope pos) (some (.Name y py)) spos.line X.env = pure true) (hi : IX X T E tg iter mi) (ok : BlkOk X.N X.env.scope scope own)
    (hg : ∀ (s : Shared) (H : Hp) (C : Addr) (cl : List (Str × Addr)) (fp : List Addr), GX (X.blk s H scope (compEnvC scope cl C X.env) fp) tg t) (ht : ∀ (s : Shared) (H : Hp) (C : Addr) (cl : List (Str × Addr)) (fp : List Addr), CX' (X.blk s H scope (compEnvC scope cl C X.env) fp) T ifs c)
    (he : ∀ (s : Shared) (H : Hp) (C : Addr) (cl : List (Str × Addr)) (fp : List Addr), EX (X.blk s H scope (compEnvC scope cl C X.env) fp) T (fun _ _ _ => False) elt m) (hsl : ∀ i ∈ t.slots, i ∈ own.map (·.2)) (hs : ∀ x, foldedSetIterable iter X.env x = pure x := by intro _; rfl) (hlm : ∀ v ∈ own.map (·.2), Lm.at_ v = none := by first | exact fun _ _ => rfl | decide) :
    SX X T E (.Assign [.Name y py] (.ListComp elt [⟨tg, iter, ifs, 0⟩] scope pos) spos) (cSet (.one i) (mLc mi t c m (own.map (·.2)))) :=
  ps_imp (ps_setLc hc hN hy hyl hsw hi ok hg ht he hs) fun D σ H h => lc_core' rfl rfl rfl hsl hlm (set_core (t := .one i) (tg := gName i) rfl h)
end
end Sim

set_option Elab.async false
set_option linter.all false
set_option maxRecDepth 100000
set_option maxHeartbeats 4000000
namespace Sim
open PySem PySem.Spec PyProof.Rows L2
variable [Tb] [Lm]

/-! ### equality of trees, by computing -/
mutual
def PV.eqb : PV → PV → Bool
  | .non, .non => true
  | .bl a, .bl b => a == b
  | .int a, .int b => decide (a = b)
  | .str a, .str b => decide (a = b)
  | .tup xs, .tup ys => PV.eqbs xs ys
  | .lst xs, .lst ys => PV.eqbs xs ys
  | .rol xs, .rol ys => PV.eqbs xs ys
  | .wtp xs, .wtp ys => PV.eqbs xs ys
  | .dct xs, .dct ys => PV.eqbk xs ys
  | .ref a, .ref b => decide (a = b)
  | .raw a, .raw b => decide (a = b)
  | .err a, .err b => decide (a = b)
  | _, _ => false
def PV.eqbs : List PV → List PV → Bool
  | [], [] => true
  | x :: xs, y :: ys => PV.eqb x y && PV.eqbs xs ys
  | _, _ => false
def PV.eqbk : List (Key × PV) → List (Key × PV) → Bool
  | [], [] => true
  | (k, x) :: xs, (j, y) :: ys => decide (k = j) && (PV.eqb x y && PV.eqbk xs ys)
  | _, _ => false
end
mutual
theorem PV.eqb_ok : ∀ {x y : PV}, PV.eqb x y = true → x = y
  | .non, y, h => by cases y <;> first | rfl | cases h
  | .bl a, y, h => by cases y <;> simp_all [PV.eqb]
  | .int a, y, h => by cases y <;> simp_all [PV.eqb]
  | .str a, y, h => by cases y <;> simp_all [PV.eqb]
  | .tup xs, y, h => by
    cases y with
    | tup ys => rw [PV.eqbs_ok (x := xs) (y := ys) (by simpa [PV.eqb] using h)]
    | _ => simp [PV.eqb] at h
  | .lst xs, y, h => by
    cases y with
    | lst ys => rw [PV.eqbs_ok (x := xs) (y := ys) (by simpa [PV.eqb] using h)]
    | _ => simp [PV.eqb] at h
  | .rol xs, y, h => by
    cases y with
    | rol ys => rw [PV.eqbs_ok (x := xs) (y := ys) (by simpa [PV.eqb] using h)]
    | _ => simp [PV.eqb] at h
  | .wtp xs, y, h => by
    cases y with
    | wtp ys => rw [PV.eqbs_ok (x := xs) (y := ys) (by simpa [PV.eqb] using h)]
    | _ => simp [PV.eqb] at h
  | .dct xs, y, h => by
    cases y with
    | dct ys => rw [PV.eqbk_ok (x := xs) (y := ys) (by simpa [PV.eqb] using h)]
    | _ => simp [PV.eqb] at h
  | .ref a, y, h => by cases y <;> simp_all [PV.eqb]
  | .raw a, y, h => by cases y <;> simp_all [PV.eqb]
  | .err a, y, h => by cases y <;> simp_all [PV.eqb]
theorem PV.eqbs_ok : ∀ {x y : List PV}, PV.eqbs x y = true → x = y
  | [], y, h => by cases y <;> first | rfl | simp [PV.eqbs] at h
  | x :: xs, y, h => by
    cases y with
    | nil => simp [PV.eqbs] at h
    | cons y ys =>
      simp only [PV.eqbs, Bool.and_eq_true] at h
      rw [PV.eqb_ok h.1, PV.eqbs_ok h.2]
theorem PV.eqbk_ok : ∀ {x y : List (Key × PV)}, PV.eqbk x y = true → x = y
  | [], y, h => by cases y <;> first | rfl | simp [PV.eqbk] at h
  | (k, x) :: xs, y, h => by
    cases y with
    | nil => simp [PV.eqbk] at h
    | cons y ys =>
      obtain ⟨j, y⟩ := y
      simp only [PV.eqbk, Bool.and_eq_true, decide_eq_true_eq] at h
      rw [h.1, PV.eqb_ok h.2.1, PV.eqbk_ok h.2.2]
end
mutual
theorem PV.eqb_refl : ∀ x : PV, PV.eqb x x = true
  | .non => rfl
  | .bl a => by simp [PV.eqb]
  | .int a => by simp [PV.eqb]
  | .str a => by simp [PV.eqb]
  | .tup xs => by simp [PV.eqb, PV.eqbs_refl xs]
  | .lst xs => by simp [PV.eqb, PV.eqbs_refl xs]
  | .rol xs => by simp [PV.eqb, PV.eqbs_refl xs]
  | .wtp xs => by simp [PV.eqb, PV.eqbs_refl xs]
  | .dct xs => by simp [PV.eqb, PV.eqbk_refl xs]
  | .ref a => by simp [PV.eqb]
  | .raw a => by simp [PV.eqb]
  | .err a => by simp [PV.eqb]
theorem PV.eqbs_refl : ∀ x : List PV, PV.eqbs x x = true
  | [] => rfl
  | x :: xs => by simp [PV.eqbs, PV.eqb_refl x, PV.eqbs_refl xs]
theorem PV.eqbk_refl : ∀ x : List (Key × PV), PV.eqbk x x = true
  | [] => rfl
  | (k, x) :: xs => by simp [PV.eqbk, PV.eqb_refl x, PV.eqbk_refl xs]
end
def MO.eqb : MO → MO → Bool
  | .lst a, .lst b => PV.eqbs a b
  | .dct a, .dct b => PV.eqbk a b
  | .dead, .dead => true
  | _, _ => false
theorem MO.eqb_ok {a b : MO} (h : MO.eqb a b = true) : a = b := by
  cases a <;> cases b <;> first | rfl | (simp only [MO.eqb] at h; first | rw [PV.eqbs_ok h] | rw [PV.eqbk_ok h]) | (simp [MO.eqb] at h)
@[simp] theorem MO.eqb_refl (a : MO) : MO.eqb a a = true := by cases a <;> simp [MO.eqb, PV.eqbs_refl, PV.eqbk_refl]

/-! ### what is left behind when a def is left -/
mutual
def low (n : Nat) : PV → Bool
  | .ref k => decide (k < n)
  | .tup xs => lows n xs
  | .lst xs => lows n xs
  | .rol xs => lows n xs
  | .wtp xs => lows n xs
  | .dct xs => lowk n xs
  | _ => true
def lows (n : Nat) : List PV → Bool
  | [] => true
  | x :: xs => low n x && lows n xs
def lowk (n : Nat) : List (Key × PV) → Bool
  | [] => true
  | (_, x) :: xs => low n x && lowk n xs
end
def lowM (n : Nat) : MO → Bool
  | .lst xs => lows n xs
  | .dct xs => lowk n xs
  | .dead => true
def mapO {α β : Type} (f : α → Option β) : List α → Option (List β)
  | [] => some []
  | x :: xs => match f x, mapO f xs with
    | some y, some ys => some (y :: ys)
    | _, _ => none
def mapOk {α β : Type} (f : α → Option β) : List (Key × α) → Option (List (Key × β))
  | [] => some []
  | (k, x) :: xs => match f x, mapOk f xs with
    | some y, some ys => some ((k, y) :: ys)
    | _, _ => none
def gcV (n : Nat) (st : Sto) : Nat → PV → Option PV
  | 0, x => if low n x = true then some x else none
  | d + 1, x => if low n x = true then some x else match x with
    | .ref k => match st[k]? with
      | some (.lst xs) => (mapO (gcV n st d) xs).map .lst
      | some (.dct xs) => (mapOk (gcV n st d) xs).map .dct
      | _ => none
    | .tup xs => (mapO (gcV n st d) xs).map .tup
    | .lst xs => (mapO (gcV n st d) xs).map .lst
    | _ => none
/-- the older part of the store: each thing is as it was, or holds nothing newer -/
def okOld (n : Nat) : Sto → Sto → Bool
  | [], _ => true
  | a :: as, b :: bs => (MO.eqb a b || lowM n a) && okOld n as bs
  | _ :: _, [] => false
/-- st: the store at the entry; s: at the end -/
def gc (st : Sto) (x : PV) (s : Sto) : Res PV := match gcV st.length s 4 x with
  | some y => if decide (st.length ≤ s.length) && okOld st.length (s.take st.length) st then .ok y (s.take st.length) else .bad
  | none => .bad
section
variable {K : PySem.W.Frag} {g g' : G} {H H' : Hp}
mutual
theorem low_of : ∀ {x : PV} {v : V}, RV K g H x v → low g.n x = true
  | _, _, .non => rfl
  | _, _, .bl _ => rfl
  | _, _, .int _ => rfl
  | _, _, .str _ => rfl
  | _, _, .tup _ l => by simpa only [low] using lows_of l
  | _, _, .wtp _ l => by simpa only [low] using lows_of l
  | _, _, .lst _ _ l => by simpa only [low] using lows_of l
  | _, _, .rol _ _ l => by simpa only [low] using lows_of l
  | _, _, .rolK _ _ l => by simpa only [low] using lows_of l
  | _, _, .dct _ _ l => by simpa only [low] using lowk_of l
  | _, _, .ref h => by simpa only [low, decide_eq_true_eq] using h
  | _, _, .raw _ => rfl
  | _, _, .err _ _ => rfl
theorem lows_of : ∀ {x : List PV} {v : List V}, RVL K g H x v → lows g.n x = true
  | _, _, .nil => rfl
  | _, _, .cons r l => by simp only [lows, low_of r, lows_of l, Bool.and_self]
theorem lowk_of : ∀ {x : List (Key × PV)} {v : List (Key × V)}, RVK K g H x v → lowk g.n x = true
  | _, _, .nil => rfl
  | _, _, .cons r l => by simp only [lowk, low_of r, lowk_of l, Bool.and_self]
end
/-- a shorter store: f the same, more that is never changed -/
structure Cut (g g' : G) : Prop where
  f : ∀ k, k < g'.n → g'.f k = g.f k
  F : ∀ a, g.F a → g'.F a
mutual
theorem low_ok (c : Cut g g') : ∀ {x : PV} {v : V}, RV K g H x v → low g'.n x = true → RV K g' H x v
  | _, _, .non, _ => .non
  | _, _, .bl b, _ => .bl b
  | _, _, .int i, _ => .int i
  | _, _, .str x, _ => .str x
  | _, _, .tup h l, e => .tup h (lows_ok c l (by simpa only [low] using e))
  | _, _, .wtp h l, e => .wtp h (lows_ok c l (by simpa only [low] using e))
  | _, _, .lst a r l, e => .lst (c.F _ a) r (lows_ok c l (by simpa only [low] using e))
  | _, _, .rol a r l, e => .rol (c.F _ a) r (lows_ok c l (by simpa only [low] using e))
  | _, _, .rolK a r l, e => .rolK a r (lows_ok c l (by simpa only [low] using e))
  | _, _, .dct a r l, e => .dct (c.F _ a) r (lowk_ok c l (by simpa only [low] using e))
  | _, _, .ref (k := k) h, e => by
    have e' : k < g'.n := by simpa only [low, decide_eq_true_eq] using e
    rw [← c.f k e']
    exact .ref e'
  | _, _, .raw v, _ => .raw v
  | _, _, .err a r, _ => .err (c.F _ a) r
theorem lows_ok (c : Cut g g') : ∀ {x : List PV} {v : List V}, RVL K g H x v → lows g'.n x = true → RVL K g' H x v
  | _, _, .nil, _ => .nil
  | _, _, .cons r l, e => by
    simp only [lows, Bool.and_eq_true] at e
    exact .cons (low_ok c r e.1) (lows_ok c l e.2)
theorem lowk_ok (c : Cut g g') : ∀ {x : List (Key × PV)} {v : List (Key × V)}, RVK K g H x v → lowk g'.n x = true → RVK K g' H x v
  | _, _, .nil, _ => .nil
  | _, _, .cons r l, e => by
    simp only [lowk, Bool.and_eq_true] at e
    exact .cons (low_ok c r e.1) (lowk_ok c l e.2)
end
def G.cut (g : G) (n : Nat) : G := { g with n := n, F := fun a => g.F a ∨ ∃ k, n ≤ k ∧ k < g.n ∧ a = g.f k }
theorem cut_cut (g : G) (n : Nat) : Cut g (g.cut n) := ⟨fun _ _ => rfl, fun _ h => .inl h⟩
theorem mapO_ok {n d : Nat} {st : Sto} (ih : ∀ {x : PV} {y : PV} {v : V}, RV K g H x v → gcV n st d x = some y → RV K (g.cut n) H y v) : ∀ {xs ys : List PV} {vs : List V}, RVL K g H xs vs → mapO (gcV n st d) xs = some ys → RVL K (g.cut n) H ys vs
  | _, _, _, .nil, e => by cases e; exact .nil
  | _, _, _, .cons r l, e => by
    simp only [mapO] at e
    split at e
    · rename_i y ys e1 e2
      cases e
      exact .cons (ih r e1) (mapO_ok ih l e2)
    · cases e
theorem mapOk_ok {n d : Nat} {st : Sto} (ih : ∀ {x : PV} {y : PV} {v : V}, RV K g H x v → gcV n st d x = some y → RV K (g.cut n) H y v) : ∀ {xs ys : List (Key × PV)} {vs : List (Key × V)}, RVK K g H xs vs → mapOk (gcV n st d) xs = some ys → RVK K (g.cut n) H ys vs
  | _, _, _, .nil, e => by cases e; exact .nil
  | _, _, _, .cons r l, e => by
    simp only [mapOk] at e
    split at e
    · rename_i y ys e1 e2
      cases e
      exact .cons (ih r e1) (mapOk_ok ih l e2)
    · cases e
theorem gcV_ok {n : Nat} {st : Sto} (s : StOk K g H st) : ∀ (d : Nat) {x y : PV} {v : V}, RV K g H x v → gcV n st d x = some y → RV K (g.cut n) H y v
  | 0, x, y, v, r, e => by
    simp only [gcV] at e
    split at e
    · rename_i h; cases e; exact low_ok (cut_cut g n) r h
    · cases e
  | d + 1, x, y, v, r, e => by
    simp only [gcV] at e
    split at e
    · rename_i h; cases e; exact low_ok (cut_cut g n) r h
    · rename_i h
      cases r with
      | ref hk =>
        rename_i k
        have hn : ¬ k < n := by simpa [low] using h
        simp only at e
        split at e
        · rename_i xs q
          obtain ⟨ys, e1, rfl⟩ := Option.map_eq_some_iff.mp e
          obtain ⟨vs, hH, l⟩ := s.at_ k _ q
          exact .lst (.inr ⟨k, by omega, hk, rfl⟩) hH (mapO_ok (fun r e => gcV_ok s d r e) l e1)
        · rename_i xs q
          obtain ⟨ys, e1, rfl⟩ := Option.map_eq_some_iff.mp e
          obtain ⟨vs, hH, l⟩ := s.at_ k _ q
          exact .dct (.inr ⟨k, by omega, hk, rfl⟩) hH (mapOk_ok (fun r e => gcV_ok s d r e) l e1)
        · cases e
      | tup hh l =>
        obtain ⟨ys, e1, rfl⟩ := Option.map_eq_some_iff.mp e
        exact .tup hh (mapO_ok (fun r e => gcV_ok s d r e) l e1)
      | lst f hh l =>
        obtain ⟨ys, e1, rfl⟩ := Option.map_eq_some_iff.mp e
        exact .lst (.inl f) hh (mapO_ok (fun r e => gcV_ok s d r e) l e1)
      | _ => cases e
theorem okOld_get {n : Nat} : ∀ {as bs : Sto} {i : Nat} {a : MO}, okOld n as bs = true → as[i]? = some a → (∃ b, bs[i]? = some b ∧ a = b) ∨ lowM n a = true
  | [], _, _, _, _, e => by simp at e
  | a :: as, b :: bs, 0, x, h, e => by
    simp only [okOld, Bool.and_eq_true, Bool.or_eq_true] at h
    simp at e; subst e
    exact h.1.elim (fun z => .inl ⟨b, rfl, MO.eqb_ok z⟩) .inr
  | a :: as, b :: bs, i + 1, x, h, e => by
    simp only [okOld, Bool.and_eq_true, Bool.or_eq_true] at h
    simpa using okOld_get (i := i) h.2 (by simpa using e)
  | a :: as, [], _, _, h, _ => by simp [okOld] at h
theorem MOk.low {a : Addr} {m : MO} (h : MOk K g H a m) : lowM g.n m = true := by
  cases m with
  | lst xs => obtain ⟨vs, _, l⟩ := h; exact lows_of l
  | dct xs => obtain ⟨vs, _, l⟩ := h; exact lowk_of l
  | dead => rfl
/-- leaving a def -/
theorem gc_ok {T : String → Value} {E : XK} {st s : Sto} {x : PV} {v : V} {Q : VK} {g0 : G} {H0 : Hp} (s0 : StOk K g0 H0 st) (e : Ext g0 H0 g H) (s1 : StOk K g H s) (r : RV K g H x v) (h : okR T K (rV K) g0 H0 (gc st x s) Q E) : Q v H := by
  unfold gc at h
  split at h
  · rename_i y ey
    split at h
    · rename_i hf
      simp only [Bool.and_eq_true, decide_eq_true_eq] at hf
      obtain ⟨hl, ho⟩ := hf
      have hn : st.length ≤ g.n := by rw [s1.len]; exact hl
      have c := cut_cut g st.length
      refine okR.finE (g' := g.cut st.length) h ⟨⟨by rw [s0.len]; exact Nat.le_refl _, fun k hk => e.f k hk, fun a ha => ⟨.inl (e.F a ha).1, (e.F a ha).2⟩, e.t⟩, fun a ha => e.P a ha⟩ ⟨?_, fun i j hi hj q => s1.inj i j (Nat.lt_of_lt_of_le hi hn) (Nat.lt_of_lt_of_le hj hn) q, fun i m q al z => ?_, fun a z => ?_, fun a z => ⟨(s1.pr a z).1, fun w => ?_, fun i hi => (s1.pr a z).2.2 i (Nat.lt_of_lt_of_le hi hn)⟩, fun i m q => ?_, s1.tb⟩ (gcV_ok s1 4 r ey)
      · show st.length = _
        rw [List.length_take]; omega
      · have hi : i < st.length := by
          have := (List.getElem?_eq_some_iff.mp q).1
          rw [List.length_take] at this; omega
        rw [List.getElem?_take_of_lt hi] at q
        rcases z with z | ⟨k, h1, h2, h3⟩
        · exact s1.sep i m q al z
        · have := s1.inj i k (s1.lt q) h2 h3
          omega
      · rcases z with z | ⟨k, h1, h2, h3⟩
        · exact s1.fz a z
        · subst h3
          have h4 : k < s.length := by rw [← s1.len]; exact h2
          exact (s1.at_ k s[k] (List.getElem?_eq_getElem h4)).nt
      · rcases w with w | ⟨k, h1, h2, h3⟩
        · exact (s1.pr a z).2.1 w
        · exact (s1.pr a z).2.2 k h2 h3.symm
      · have hi : i < st.length := by
          have := (List.getElem?_eq_some_iff.mp q).1
          rw [List.length_take] at this; omega
        have q' := q
        rw [List.getElem?_take_of_lt hi] at q'
        have lo : lowM st.length m = true := by
          rcases okOld_get ho q with ⟨b, hb, rfl⟩ | z
          · have := (s0.at_ i _ hb).low
            rw [s0.len] at this
            exact this
          · exact z
        have := s1.at_ i m q'
        cases m with
        | lst xs => obtain ⟨vs, hh, l⟩ := this; exact ⟨vs, hh, lows_ok c l lo⟩
        | dct xs => obtain ⟨vs, hh, l⟩ := this; exact ⟨vs, hh, lowk_ok c l lo⟩
        | dead => exact this
    · exact h.elim
  · exact h.elim
end
end Sim

set_option Elab.async false
set_option linter.all false
set_option maxRecDepth 100000
set_option maxHeartbeats 4000000
namespace Sim
open PySem PySem.Spec PyProof.Rows L2
variable [Tb] [Lm]

/-! ### defs: as the layer's contracts, but nothing is being shown (str) where they run -/
def Gd (A : Around) : Prop := A.guards = some []
theorem Gd.deeper {A : Around} (h : Gd A) (env : PySem.Env) : Gd (A.deeper env) := h
structure FnG (P : Program) (w : World) (K : PySem.W.Frag) (mg : Str → Option Value) (base : Heap) (CX : CXT) (k : Nat) (f : Addr) (fd : FuncData) (ps : List Str) (sp : Sp) : Prop where
  many : ∀ vs H Q E, sp vs H Q E → vs.length = ps.length
  go : ∀ (A : Around) (outer : List PySem.Env) (s : Shared) (H : Hp) (args : Args) (us : List Value) (vs : List V) (Q : VK) (E : XK), Gd A → Room k A → Env0 P w K mg base A outer s H →
    BindsTo s fd args (ps.zip us) → Vals vs us → sp vs H Q E → codeAny (model P w) A (.call (.ref f) args) (CR CX outer P w H s Q E) s
theorem FnG.up {P : Program} {w : World} {K : PySem.W.Frag} {mg : Str → Option Value} {base : Heap} {CX : CXT} {j k : Nat} {f : Addr} {fd : FuncData} {ps : List Str} {sp : Sp} (F : FnG P w K mg base CX j f fd ps sp)
    (h : j ≤ k) : FnG P w K mg base CX k f fd ps sp :=
  ⟨F.many, fun A outer s H args us vs Q E gd hr => F.go A outer s H args us vs Q E gd (hr.mono h)⟩
section
variable {X : Cx} {CX : CXT} {k : Nat} {f : Addr} {fd : FuncData} {ps ks : List Str} {sp : Sp} {dvs : List V} {ds : List Value} {E : XK} {x : Str} {p pos : Pos} {e : Expr} {es : List Expr} {kws : List Keyword} {t tk : TA}
theorem goG {pins : List (Addr × Obj)} {σ : L2.St} {H : Hp} {s : Shared} {Q : VK} {us us' : List Value} {kw : List (Str × Value)} {vs : List V} (F : FnG X.prog X.w X.K X.mg X.base CX k f fd ps sp) (gd : Gd X.A) (hr : Room k X.A)
    (hx : Passes CX X E) (I : Inv X pins σ H s) (hb : (us').length = ps.length → BindsTo s fd ⟨us, kw⟩ (ps.zip us')) (r : Vals vs us') (h : sp vs H Q E) : wpAny (model X.prog X.w) X.A (call (.ref f) us kw) (EP X pins σ Q) X.xe s := by
  have hl : us'.length = ps.length := r.length.symm.trans (F.many _ _ _ _ h)
  have c := F.go X.A X.stack s H ⟨us, kw⟩ us' vs Q E gd hr I.env0 (hb hl) r h
  refine wpAny_call (codeAny_mono c ?_)
  intro res s' hq
  match res, hq with
  | .error er, hq => exact hx pins σ H s er s' I hq
  | .ok (.ret u), hq => exact I.after hq
theorem pe_callG (F : FnG X.prog X.w X.K X.mg X.base CX k f fd ps sp) (gd : Gd X.A) (hr : Room k X.A) (hg : Gl X x) (hm : X.mg x = some (.ref f)) (hk : PySem.W.keepIn X.K (.ref f) = true) (hb : Binds X.K fd ps ds)
    (hd : Vals dvs ds) (hx : Passes CX X E) (ha : PA X (e :: es) t) (hdb : (x == ("__debug__" : Str)) = false := by decide)
    (he : starEach (e :: es) X.env = (false, eval e X.env) :: starEach es X.env := by rfl) (hpl : (backTo pos (starEach es X.env)).any (·.1) = false := by rfl) : PE X (.Call (.Name x p) (e :: es) [] pos) (tCall sp dvs E t) := by
  constructor
  intro pins s σ H Q I h
  apply wpAny_Call_Name_kw
  refine ld_glob I hg hm ?_ hdb
  have args := ha.run pos pins s σ H _ I h
  refine PySem.W.callWith_K (h₀ := X.base) I.ok.mod.kin hk (thn args ?_) he hpl
  rintro us s1 ⟨vs, H1, I1, r, q⟩
  exact ⟨I1.kIn, goG F gd hr hx I1 (fun hl => hb s1 us I1.kIn hl) (r.append hd) q⟩
theorem pe_callG0 (F : FnG X.prog X.w X.K X.mg X.base CX k f fd ps sp) (gd : Gd X.A) (hr : Room k X.A) (hg : Gl X x) (hm : X.mg x = some (.ref f)) (hk : PySem.W.keepIn X.K (.ref f) = true) (hb : Binds X.K fd ps ds)
    (hd : Vals dvs ds) (hx : Passes CX X E) (hdb : (x == ("__debug__" : Str)) = false := by decide) : PE X (.Call (.Name x p) [] [] pos) (tCall sp dvs E tNil) := by
  constructor
  intro pins s σ H Q I h
  apply wpAny_Call_Name_kw
  refine ld_glob I hg hm ?_ hdb
  have b := fun hl => hb s [] I.kIn hl
  exact PySem.W.callWith_K0 I.kIn hk (goG (us := []) F gd hr hx I b (Vals.append .nil hd) h)
variable {gf : List Value → List Value → List Value} {gV : List V → List V → List V}
theorem pe_callGK (F : FnG X.prog X.w X.K X.mg X.base CX k f fd ps sp) (gd : Gd X.A) (hr : Room k X.A) (hg : Gl X x) (hm : X.mg x = some (.ref f)) (hk : PySem.W.keepIn X.K (.ref f) = true) (hb : KBinds X.K fd ps ks gf gV)
    (hx : Passes CX X E) (ha : PA X es t) (hkw : PK X kws tk) (hc : ∀ (pins : List (Addr × Obj)) (s : Shared) (σ : L2.St) (H : Hp) (Q : Value → Shared → Prop), Inv X pins σ H s →
      wpAny (model X.prog X.w) X.A (spliced (backTo pos (starEach es X.env))) (fun us s1 => wpAny (model X.prog X.w) X.A (evalAll ((backToKw pos (keywordEach kws X.env)).map (·.2))) (fun ws s2 => X.K.In s2.heap ∧ wpAny (model X.prog X.w) X.A (call (.ref f) us (ks.zip ws)) Q X.xe s2) X.xe s1) X.xe s →
      wpAny (model X.prog X.w) X.A (eval (.Call (.Name x p) es kws pos) X.env) Q X.xe s) : PE X (.Call (.Name x p) es kws pos) (tCallK sp gV E t tk) := by
  constructor
  intro pins s σ H Q I h
  refine hc pins s σ H _ I ?_
  have args := ha.run pos pins s σ H _ I h
  refine thn args ?_
  rintro us s1 ⟨vs, H1, I1, r, q⟩
  have more := hkw.run pos pins s1 σ H1 _ I1 q
  refine thn more ?_
  rintro ws s2 ⟨zs, H2, I2, rz, q2⟩
  exact ⟨I2.kIn, goG F gd hr hx I2 (fun hl => hb.to s2 us ws I2.kIn hl) (hb.rel r rz) q2⟩
end

/-- a def of the text keeps its promise, by its body -/
theorem fnG_of {CX : CXT} {P : Program} {w : World} {K : PySem.W.Frag} {mg : Str → Option Value} {base : Heap} {k : Nat} {f : Addr} {x qual : Str} {st : Stmt} {fd : FuncData} {N ps : List Str} {sp : Sp} (F : Fun K x qual st f fd) (S : FnScope N ps (defScope st))
    (many : ∀ vs H Q E, sp vs H Q E → vs.length = ps.length)
    (hbody : ∀ (cdv : Value) (A : Around) (outer : List PySem.Env) (s : Shared) (H : Hp) (vs : List V) (Q : VK) (E : XK), Gd (A.deeper (envOfC qual (defScope st) s.heap.objs.size f cdv)) → Room k (A.deeper (envOfC qual (defScope st) s.heap.objs.size f cdv)) → sp vs H Q E →
      ∃ t, PSs (cxOf CX P w K mg base N qual (defScope st) f cdv A outer s H E) (defBody st) t ∧ t { nx := fun _ H' => Q .non H', rt := Q } (L2.start N vs) H) : FnG P w K mg base CX (k + 1) f fd ps sp := by
  obtain ⟨oc, od, kV, doc, pm, an, cdv, ct, osl, rfl, lk, hcd⟩ := F.ex
  constructor
  · exact many
  intro A outer s H args us vs Q E gd hr e0 hb r hsp
  have hl := many _ _ _ _ hsp
  have old : ∀ b o, base.get? b = some o → s.heap.get? b = some o := fun b o e => (e0.bs b o e).1
  have KX : K.In s.heap := e0.mod.kin.keeps old
  have lim : s.heap.NoLimit := e0.mod.nolimit.keeps old
  have hkind : ∀ y ∈ ps.zip us, (defScope st).names.lookup y.1 = some .local ∨ ((defScope st).names.lookup y.1 = some .cell ∧ ((cellsFrom (s.heap.objs.size + 1) (defScope st).names []).lookup y.1).isSome = true) := by
    rintro ⟨n, v⟩ hy
    have q := S.par n (List.of_mem_zip hy).1
    exact q.imp id fun q => ⟨q, PySem.W.cellsFrom_some _ _ _ (.inl q)⟩
  have cr := PySem.W.codeRec_of KX hcd
  refine codeAny_call_function hr.depth (KX _ _ lk) rfl S.co S.gen rfl cr (hb _ _ _ _ ?_)
  refine wpAny_newFunctionEnv_cells S.kind hkind ?_
  intro env he s1 xx
  subst he
  refine ⟨lim.keeps xx.toInCall.keep, codeAny_func ?_⟩
  obtain ⟨t, ht, hq⟩ := hbody cdv A outer s H vs Q E (gd.deeper _) (hr.deeper _) hsp
  have I := inv_start (CX := CX) (P := P) (w := w) (mg := mg) (N := N) (qual := qual) (f := f) (E := E) S hr.hd e0 hl r xx
  have run := ht.run [] s1 (L2.start N vs) H _ I hq
  refine wpAny_mono run ?_ fun e s' hs => hs
  intro fl s' hs
  match fl, hs with
  | .ret u, ⟨v, σ', H', J, rv, q⟩ => exact ⟨v, H', J.os, J.bare, J.base, J.hok, rv, q⟩
  | .next, ⟨σ', H', J, q⟩ => exact ⟨V.non, H', J.os, J.bare, J.base, J.hok, rfl, q⟩
  | .brk, ⟨_, _, _, q⟩ => exact q.elim
  | .cont, ⟨_, _, _, q⟩ => exact q.elim

/-! ### a def's promise by its mirror -/
abbrev MF := List PV → Sto → Res PV
def spM (T : String → Value) (K : PySem.W.Frag) (n : Nat) (F : MF) : Sp := fun vs H Q E => vs.length = n ∧ ∃ g st xs, StOk K g H st ∧ RVL K g H xs vs ∧ okR T K (rV K) g H (F xs st) Q E
/-- the body run, then what it made is dropped -/
def defM (n : Nat) (b : MS) : MF := fun xs st => match b (xs.map some ++ List.replicate (n - xs.length) none) st with
  | .rt x s => gc st x s
  | .nx _ s => gc st .non s
  | _ => .bad
/-- a frame that was handed no lambda -/
abbrev lm0 : Lm := ⟨fun _ => none⟩
omit [Lm] in
theorem env_start {K : PySem.W.Frag} {g : G} {H : Hp} {N : List Str} {xs : List PV} {vs : List V} (l : RVL K g H xs vs) : letI : Lm := lm0; EnvOk K g H (xs.map some ++ List.replicate (N.length - xs.length) none) (L2.start N vs) := by
  letI : Lm := lm0
  have hl := l.length
  refine ⟨by unfold L2.start; simp [hl], fun i x q => ?_, fun i a q => nomatch q⟩
  unfold L2.start
  by_cases hi : i < xs.length
  · rw [List.getElem?_append_left (by simpa using hi), List.getElem?_map, Option.map_eq_some_iff] at q
    obtain ⟨y, q1, q2⟩ := q
    cases q2
    obtain ⟨v, h1, r⟩ := l.get q1
    refine ⟨v, ?_, r⟩
    rw [List.getElem?_append_left (by simpa [← hl] using hi), List.getElem?_map, h1]
    rfl
  · rw [List.getElem?_append_right (by simpa using hi)] at q
    rw [List.getElem?_replicate] at q
    split at q <;> cases q
end Sim

set_option Elab.async false
set_option linter.all false
set_option maxRecDepth 100000
set_option maxHeartbeats 4000000
namespace Sim
open PySem PySem.Spec PyProof.Rows L2
variable [Tb] [Lm]

/-! ### calls -/
def fnN (n : Nat) (F : MF) : SeN := fun xs st => if xs.length = n then F xs st else .bad
section
variable {X : Cx} {T : String → Value} {E : XK} {k n : Nat} {f : Addr} {fd : FuncData} {ps ks : List Str} {F : MF} {x : Str} {p pos : Pos} {e : Expr} {es : List Expr} {ms : ML} {kws : List Keyword}
/-- what is known of a def that is called by its name -/
structure Dn (X : Cx) (T : String → Value) (CX : CXT) (x : Str) (k : Nat) (f : Addr) (fd : FuncData) (ps : List Str) (F : MF) : Prop where
  fn : FnG X.prog X.w X.K X.mg X.base CX k f fd ps (spM T X.K ps.length F)
  mg : X.mg x = some (.ref f)
  kp : PySem.W.keepIn X.K (.ref f) = true
theorem pass00 {X : Cx} {E : XK} : Passes CX0 X E := fun _ _ _ _ _ _ _ h => h.elim
theorem x_call (d : Dn X T CX0 x k f fd ps F) (gd : Gd X.A) (hr : Room k X.A) (hg : Gl X x) (hb : Binds X.K fd ps []) (ha : AX X T E (e :: es) ms) (hdb : (x == ("__debug__" : Str)) = false := by decide)
    (he : starEach (e :: es) X.env = (false, eval e X.env) :: starEach es X.env := by rfl) (hpl : (backTo pos (starEach es X.env)).any (·.1) = false := by rfl) : EX X T E (.Call (.Name x p) (e :: es) [] pos) (mApp (fnN ps.length F) ms) :=
  pe_imp (pe_callG (E := E) d.fn gd hr hg d.mg d.kp hb .nil pass00 ha hdb he hpl) fun σ H Q ⟨g, st, env, s, en, h⟩ => tl_of s en h fun g1 H1 st1 xs vs e1 s1 en1 r1 h1 => by
    simp only [fnN] at h1
    split at h1
    · rename_i hl
      rw [List.append_nil]
      exact ⟨by rw [← r1.length]; exact hl, g1, st1, xs, s1, r1, h1⟩
    · exact h1.elim
theorem x_call0 (d : Dn X T CX0 x k f fd [] F) (gd : Gd X.A) (hr : Room k X.A) (hg : Gl X x) (hb : Binds X.K fd [] []) (hdb : (x == ("__debug__" : Str)) = false := by decide) : EX X T E (.Call (.Name x p) [] [] pos) (mApp (fnN 0 F) mNil) :=
  pe_imp (pe_callG0 (E := E) d.fn gd hr hg d.mg d.kp hb .nil pass00 hdb) fun σ H Q ⟨g, st, env, s, en, h⟩ => ⟨rfl, g, st, [], s, .nil, h⟩
/-! all arguments by name -/
def permL {α : Type} (is : List Nat) (xs : List α) : List α := is.filterMap (xs[·]?)
theorem permL_rel {K : PySem.W.Frag} {g : G} {H : Hp} {xs : List PV} {vs : List V} (l : RVL K g H xs vs) : ∀ is : List Nat, RVL K g H (permL is xs) (permL is vs)
  | [] => .nil
  | i :: is => by
    unfold permL
    cases q : xs[i]? with
    | none =>
      have hv : vs[i]? = none := by
        have := l.length
        rw [List.getElem?_eq_none_iff] at q ⊢
        omega
      rw [List.filterMap_cons_none q, List.filterMap_cons_none hv]
      exact permL_rel l is
    | some x =>
      obtain ⟨v, hv, r⟩ := l.get q
      rw [List.filterMap_cons_some q, List.filterMap_cons_some hv]
      exact .cons r (permL_rel l is)
theorem permL_vals {xs : List V} {vs : List Value} (l : Vals xs vs) : ∀ is : List Nat, Vals (permL is xs) (permL is vs)
  | [] => .nil
  | i :: is => by
    unfold permL
    cases q : xs[i]? with
    | none =>
      rw [List.filterMap_cons_none q, List.filterMap_cons_none (l.none_of q)]
      exact permL_vals l is
    | some x =>
      obtain ⟨v, hv, r⟩ := l.get q
      rw [List.filterMap_cons_some q, List.filterMap_cons_some hv]
      exact .cons r (permL_vals l is)
def KB (K : PySem.W.Frag) (fd : FuncData) (ps ks : List Str) (is : List Nat) : Prop := ∀ (s : Shared) (us : List Value), K.In s.heap → us.length = ks.length → BindsTo s fd ⟨[], ks.zip us⟩ (ps.zip (permL is us))
abbrev KX (X : Cx) (T : String → Value) (E : XK) (ks : List Keyword) (m : ML) : Prop := PK X ks (TL T X.K E m)
theorem pk_imp {kws : List Keyword} {t t' : TA} (h : PK X kws t) (i : ∀ σ H Q, t' σ H Q → t σ H Q) : PK X kws t' := ⟨fun pos pins s σ H Q I q => h.run pos pins s σ H Q I (i σ H Q q)⟩
theorem k_nil : KX X T E [] mNil := pk_imp pk_nil fun σ H Q ⟨g, st, env, s, en, h⟩ => okR.fin h s .nil
theorem k_cons {nm : Option Str} {kpos : Pos} {m : M} (ha : EX X T E e m) (hr : KX X T E kws ms) : KX X T E (⟨nm, e, kpos⟩ :: kws) (mCons m ms) :=
  pk_imp (pk_cons ha hr) fun σ H Q ⟨g, st, env, s, en, h⟩ => tv_of s en h fun g1 H1 st1 x v e1 s1 en1 r1 h1 => tl_of s1 en1 h1 fun g2 H2 st2 xs vs e2 s2 en2 r2 h2 => okR.fin h2 s2 (.cons (r1.mono e2) r2)
def fnK (n m : Nat) (is : List Nat) (F : MF) : SeN := fun xs st => if xs.length = n then (if (permL is xs).length = m then F (permL is xs) st else .bad) else .bad
theorem x_callKw {is : List Nat} (d : Dn X T CX0 x k f fd ps F) (gd : Gd X.A) (hr : Room k X.A) (hg : Gl X x) (hb : KB X.K fd ps ks is) (hkw : KX X T E kws ms) (hall : (backToKw pos (keywordEach kws X.env)).all (·.1.isSome) = true := by rfl)
    (hks : (backToKw pos (keywordEach kws X.env)).filterMap (·.1) = ks := by rfl) (hdb : (x == ("__debug__" : Str)) = false := by decide) (hpl : ((backTo pos (starEach [] X.env)).any (·.1) || (backToKw pos (keywordEach kws X.env)).any (·.1.isNone)) = false := by rfl) :
    EX X T E (.Call (.Name x p) [] kws pos) (mApp (fnK ks.length ps.length is F) ms) := by
  constructor
  intro pins s σ H Q I h
  apply wpAny_Call_Name_kw
  refine ld_glob I hg d.mg ?_ hdb
  refine PySem.W.callWith_KW0 (h₀ := X.base) I.ok.mod.kin d.kp hall ?_ hpl
  obtain ⟨g, st, env, so, en, h⟩ := h
  have more := hkw.run pos pins s σ H _ I (tl_of so en h fun g1 H1 st1 xs vs e1 s1 en1 r1 h1 => (show ∃ g st xs, StOk X.K g H1 st ∧ RVL X.K g H1 xs vs ∧ okR T X.K (rV X.K) g H1 (fnK ks.length ps.length is F xs st) Q E from ⟨g1, st1, xs, s1, r1, h1⟩))
  refine thn more ?_
  rintro ws s2 ⟨zs, H2, I2, rz, g1, st1, xs, s1, r1, h1⟩
  refine ⟨I2.kIn, ?_⟩
  simp only [fnK] at h1
  split at h1
  · rename_i hl
    split at h1
    · rename_i hl2
      rw [hks]
      have l2 := permL_rel r1 is
      have v2 := permL_vals rz is
      refine goG (E := E) d.fn gd hr pass00 I2 (fun _ => ?_) v2 ⟨by rw [← l2.length]; exact hl2, g1, st1, permL is xs, s1, l2, h1⟩
      exact hb s2 ws I2.kIn (by rw [← rz.length, ← r1.length]; exact hl)
    · exact h1.elim
  · exact h1.elim

/-! built-in functions and types -/
theorem x_callB {id : String} {r : List V → Hp → VK → Prop} {fs : SeN} (hc : CallR X (.builtin id) r) (hs : SN T X.K E r fs) (hg : Gl X x) (hm : X.mg x = none) (hv : bootBuiltins x = some (.builtin id)) (ha : AX X T E (e :: es) ms)
    (hn : x ≠ "__name__" := by decide) (hdb : (x == ("__debug__" : Str)) = false := by decide) (he : starEach (e :: es) X.env = (false, eval e X.env) :: starEach es X.env := by rfl) (hpl : (backTo pos (starEach es X.env)).any (·.1) = false := by rfl) :
    EX X T E (.Call (.Name x p) (e :: es) [] pos) (mApp fs ms) :=
  pe_imp (pe_callB hc hg hm hv ha hn hdb he hpl) fun σ H Q ⟨g, st, env, s, en, h⟩ => tl_of s en h fun g1 H1 st1 xs vs e1 s1 en1 r1 h1 => hs g1 H1 st1 xs vs Q s1 r1 h1
theorem x_callTy {id : String} {r : List V → Hp → VK → Prop} {fs : SeN} (hc : CallR X (.type id) r) (hs : SN T X.K E r fs) (hg : Gl X x) (hm : X.mg x = none) (hv : bootBuiltins x = some (.type id)) (ha : AX X T E (e :: es) ms)
    (hn : x ≠ "__name__" := by decide) (hdb : (x == ("__debug__" : Str)) = false := by decide) (he : starEach (e :: es) X.env = (false, eval e X.env) :: starEach es X.env := by rfl) (hpl : (backTo pos (starEach es X.env)).any (·.1) = false := by rfl) :
    EX X T E (.Call (.Name x p) (e :: es) [] pos) (mApp fs ms) :=
  pe_imp (pe_callTy hc hg hm hv ha hn hdb he hpl) fun σ H Q ⟨g, st, env, s, en, h⟩ => tl_of s en h fun g1 H1 st1 xs vs e1 s1 en1 r1 h1 => hs g1 H1 st1 xs vs Q s1 r1 h1
/-- a built-in class as a value -/
theorem x_ty {n : String} (hg : Gl X x) (hm : X.mg x = none) (hv : bootBuiltins x = some (.type n)) (hn : x ≠ "__name__" := by decide) (hdb : (x == ("__debug__" : Str)) = false := by decide) : EX X T E (.Name x pos) (mC (.raw (.ty n))) :=
  x_C (pe_bltn hg hm hv (show RelV (.ty n) (.type n) from rfl) hn hdb) fun _ _ => .raw _
end
def sLen : SeN := fun xs st => match xs with
  | [.str z] => if decide (z.length ≤ 16777216) then .ok (.int z.length) st else .bad
  | [x] => match asS st x with
    | some ys => .ok (.int ys.length) st
    | none => .bad
  | _ => .bad
def tys : List String := ["NoneType", "bool", "int", "str", "tuple", "list", "dict"]
def isTy (t c : String) : Bool := t == c || (t == "bool" && c == "int")
def sIsi : SeN := fun xs st => match xs with
  | [x, .raw (.ty c)] => match tyName st x with
    | some t => if tys.contains t && tys.contains c then .ok (.bl (isTy t c)) st else .bad
    | none => .bad
  | _ => .bad
def sInt : SeN := fun xs st => match xs with
  | [.int i] => .ok (.int i) st
  | [.bl b] => .ok (.int (if b then 1 else 0)) st
  | _ => .bad
def sTuple : SeN := fun xs st => match xs with
  | [.tup ys] => .ok (.tup ys) st
  | [x] => match asL st x with
    | some ys => .ok (.tup ys) st
    | none => .bad
  | _ => .bad
def sListF : SeN := fun xs st => match xs with
  | [x] => match asS st x with
    | some ys => .ok (.lst ys) st
    | none => .bad
  | _ => .bad
def sListM : SeN := fun xs st => match xs with
  | [x] => match asS st x with
    | some ys => .ok (.ref st.length) (st ++ [.lst ys])
    | none => .bad
  | _ => .bad
def asBs : List PV → Option (List Bool)
  | [] => some []
  | .bl b :: r => (asBs r).map (b :: ·)
  | _ => none
def asIs : List PV → Option (List Int)
  | [] => some []
  | .int b :: r => (asIs r).map (b :: ·)
  | _ => none
def asStrs : List PV → Option (List Str)
  | [] => some []
  | .str b :: r => (asStrs r).map (b :: ·)
  | _ => none
def sAll : SeN := fun xs st => match xs with
  | [x] => match (asL st x).bind asBs with
    | some bs => .ok (.bl (bs.all id)) st
    | none => .bad
  | _ => .bad
def sAny : SeN := fun xs st => match xs with
  | [x] => match (asL st x).bind asBs with
    | some bs => .ok (.bl (bs.any id)) st
    | none => .bad
  | _ => .bad
def sMax2 : SeN := fun xs st => match xs with
  | [.int i, .int j] => .ok (.int (if j > i then j else i)) st
  | _ => .bad
def sMin2 : SeN := fun xs st => match xs with
  | [.int i, .int j] => .ok (.int (if j < i then j else i)) st
  | _ => .bad
section
variable {K : PySem.W.Frag} {g : G} {H : Hp}
theorem asBs_ok : ∀ {xs : List PV} {bs : List Bool}, asBs xs = some bs → xs = bs.map .bl
  | [], _, e => by cases e; rfl
  | .bl b :: r, _, e => by
    simp only [asBs, Option.map_eq_some_iff] at e
    obtain ⟨cs, e1, rfl⟩ := e
    rw [asBs_ok e1]; rfl
  | .non :: _, _, e | .int _ :: _, _, e | .str _ :: _, _, e | .tup _ :: _, _, e | .lst _ :: _, _, e | .dct _ :: _, _, e | .ref _ :: _, _, e | .raw _ :: _, _, e | .rol _ :: _, _, e | .wtp _ :: _, _, e | .err _ :: _, _, e => by cases e
theorem asIs_ok : ∀ {xs : List PV} {bs : List Int}, asIs xs = some bs → xs = bs.map .int
  | [], _, e => by cases e; rfl
  | .int b :: r, _, e => by
    simp only [asIs, Option.map_eq_some_iff] at e
    obtain ⟨cs, e1, rfl⟩ := e
    rw [asIs_ok e1]; rfl
  | .non :: _, _, e | .bl _ :: _, _, e | .str _ :: _, _, e | .tup _ :: _, _, e | .lst _ :: _, _, e | .dct _ :: _, _, e | .ref _ :: _, _, e | .raw _ :: _, _, e | .rol _ :: _, _, e | .wtp _ :: _, _, e | .err _ :: _, _, e => by cases e
theorem asStrs_ok : ∀ {xs : List PV} {bs : List Str}, asStrs xs = some bs → xs = bs.map .str
  | [], _, e => by cases e; rfl
  | .str b :: r, _, e => by
    simp only [asStrs, Option.map_eq_some_iff] at e
    obtain ⟨cs, e1, rfl⟩ := e
    rw [asStrs_ok e1]; rfl
  | .non :: _, _, e | .bl _ :: _, _, e | .int _ :: _, _, e | .tup _ :: _, _, e | .lst _ :: _, _, e | .dct _ :: _, _, e | .ref _ :: _, _, e | .raw _ :: _, _, e | .rol _ :: _, _, e | .wtp _ :: _, _, e | .err _ :: _, _, e => by cases e
theorem kit_tab : (tys.all fun t => tys.all fun c => kitB t c == some (isTy t c)) = true := by decide +kernel
theorem kit_of' {t c : String} (h : (tys.contains t && tys.contains c) = true) : kitB t c = some (isTy t c) := by
  rw [Bool.and_eq_true, List.contains_iff_mem, List.contains_iff_mem] at h
  have := kit_tab
  rw [List.all_eq_true] at this
  have := this t h.1
  rw [List.all_eq_true] at this
  exact eq_of_beq (this c h.2)
end
section
variable {X : Cx} {T : String → Value} {E : XK}
theorem one_of {K : PySem.W.Frag} {g : G} {H : Hp} {x : PV} {vs : List V} (l : RVL K g H [x] vs) : ∃ v, vs = [v] ∧ RV K g H x v := by
  cases l with
  | cons r l => cases l; exact ⟨_, rfl, r⟩
theorem two_of {K : PySem.W.Frag} {g : G} {H : Hp} {x y : PV} {vs : List V} (l : RVL K g H [x, y] vs) : ∃ v u, vs = [v, u] ∧ RV K g H x v ∧ RV K g H y u := by
  cases l with
  | cons r l => obtain ⟨u, rfl, r2⟩ := one_of l; exact ⟨_, _, rfl, r, r2⟩
theorem n_len : SN T X.K E (fun xs H Q => ∃ x n, xs = [x] ∧ LenV X.K x H n ∧ Q (.int n) H) sLen := by
  intro g H st xs vs Q s l h
  unfold sLen at h
  split at h
  · obtain ⟨v, rfl, r⟩ := one_of l
    cases r
    split at h
    · rename_i hf
      exact ⟨_, _, rfl, ⟨by rw [sizeLine_eq]; exact of_decide_eq_true hf, rfl⟩, okR.fin h s (.int _)⟩
    · exact h.elim
  · obtain ⟨v, rfl, r⟩ := one_of l
    split at h
    · rename_i ys e
      obtain ⟨a, ws, rfl, hq, l2⟩ := asS_ok s r e
      refine ⟨_, ys.length, rfl, ?_, okR.fin h s (.int _)⟩
      rw [l2.length]
      exact hq.imp (fun z => ⟨ws, z, rfl⟩) fun z => ⟨ws, z, rfl⟩
    · exact h.elim
  · exact h.elim
theorem n_isi : SN T X.K E (rIsi X.K) sIsi := by
  intro g H st xs vs Q s l h
  unfold sIsi at h
  split at h
  · rename_i x c
    obtain ⟨v, u, rfl, r, r2⟩ := two_of l
    cases r2
    split at h
    · rename_i t e
      split at h
      · rename_i hf
        exact ⟨v, _, _, _, _, rfl, .ty c, tyName_ok s r e, kit_ty (kit_of' hf), okR.fin h s (.bl _)⟩
      · exact h.elim
    · exact h.elim
  · exact h.elim
theorem n_int : SN T X.K E (fun xs H Q => (∃ i, xs = [.int i] ∧ Q (.int i) H) ∨ ∃ k, xs = [.bl k] ∧ Q (.int (if k then 1 else 0)) H) sInt := by
  intro g H st xs vs Q s l h
  unfold sInt at h
  split at h
  · obtain ⟨v, rfl, r⟩ := one_of l
    cases r
    exact .inl ⟨_, rfl, okR.fin h s (.int _)⟩
  · obtain ⟨v, rfl, r⟩ := one_of l
    cases r
    exact .inr ⟨_, rfl, okR.fin h s (.int _)⟩
  · exact h.elim
theorem n_tuple : SN T X.K E (fun xs H Q => ∃ p ys, xs = [.ref p] ∧ ((SqL X.K H p ys ∧ NewT ys H Q) ∨ (SqT X.K H p ys ∧ Q (.ref p) H))) sTuple := by
  intro g H st xs vs Q s l h
  unfold sTuple at h
  split at h
  · obtain ⟨v, rfl, r⟩ := one_of l
    obtain ⟨a, ws, rfl, hq, l2⟩ := asT_ok r rfl
    exact ⟨a, ws, rfl, .inr ⟨hq.t, okR.fin h s (.tup hq l2)⟩⟩
  · obtain ⟨v, rfl, r⟩ := one_of l
    split at h
    · rename_i ys e
      obtain ⟨a, ws, rfl, hq, l2⟩ := asL_ok s r e
      exact ⟨a, ws, rfl, .inl ⟨hq, giveT s l2 h⟩⟩
    · exact h.elim
  · exact h.elim
theorem n_listF : SN T X.K E (fun xs H Q => ∃ p ys, xs = [.ref p] ∧ (SqL X.K H p ys ∨ SqT X.K H p ys) ∧ ∀ l, H l = none → Q (.ref l) (upd H l (.lst ys))) sListF := by
  intro g H st xs vs Q s l h
  unfold sListF at h
  split at h
  · obtain ⟨v, rfl, r⟩ := one_of l
    split at h
    · rename_i ys e
      obtain ⟨a, ws, rfl, hq, l2⟩ := asS_ok s r e
      exact ⟨a, ws, rfl, hq, giveF s l2 h⟩
    · exact h.elim
  · exact h.elim
theorem n_listM : SN T X.K E (fun xs H Q => ∃ p ys, xs = [.ref p] ∧ (SqL X.K H p ys ∨ SqT X.K H p ys) ∧ ∀ l, H l = none → Q (.ref l) (upd H l (.lst ys))) sListM := by
  intro g H st xs vs Q s l h
  unfold sListM at h
  split at h
  · obtain ⟨v, rfl, r⟩ := one_of l
    split at h
    · rename_i ys e
      obtain ⟨a, ws, rfl, hq, l2⟩ := asS_ok s r e
      exact ⟨a, ws, rfl, hq, giveM s l2 h⟩
    · exact h.elim
  · exact h.elim
theorem n_all : SN T X.K E (rAll X.K) sAll := by
  intro g H st xs vs Q s l h
  unfold sAll at h
  split at h
  · obtain ⟨v, rfl, r⟩ := one_of l
    split at h
    · rename_i bs e
      obtain ⟨ys, e1, e2⟩ := Option.bind_eq_some_iff.mp e
      obtain ⟨a, ws, rfl, hq, l2⟩ := asL_ok s r e1
      cases asBs_ok e2
      cases l2.bools
      exact ⟨a, bs, rfl, hq, okR.fin h s (.bl _)⟩
    · exact h.elim
  · exact h.elim
theorem n_any : SN T X.K E (rAny X.K) sAny := by
  intro g H st xs vs Q s l h
  unfold sAny at h
  split at h
  · obtain ⟨v, rfl, r⟩ := one_of l
    split at h
    · rename_i bs e
      obtain ⟨ys, e1, e2⟩ := Option.bind_eq_some_iff.mp e
      obtain ⟨a, ws, rfl, hq, l2⟩ := asL_ok s r e1
      cases asBs_ok e2
      cases l2.bools
      exact ⟨a, bs, rfl, hq, okR.fin h s (.bl _)⟩
    · exact h.elim
  · exact h.elim
theorem n_max2 : SN T X.K E (fun xs H Q => ∃ i j, xs = [.int i, .int j] ∧ Q (.int (if j > i then j else i)) H) sMax2 := by
  intro g H st xs vs Q s l h
  unfold sMax2 at h
  split at h
  · obtain ⟨v, u, rfl, r, r2⟩ := two_of l
    cases r; cases r2
    exact ⟨_, _, rfl, okR.fin h s (.int _)⟩
  · exact h.elim
theorem n_min2 : SN T X.K E (fun xs H Q => ∃ i j, xs = [.int i, .int j] ∧ Q (.int (if j < i then j else i)) H) sMin2 := by
  intro g H st xs vs Q s l h
  unfold sMin2 at h
  split at h
  · obtain ⟨v, u, rfl, r, r2⟩ := two_of l
    cases r; cases r2
    exact ⟨_, _, rfl, okR.fin h s (.int _)⟩
  · exact h.elim

/-! methods of a list of the store -/
def sApp (x y : PV) (st : Sto) : Res PV := match x with
  | .ref k => match st[k]? with
    | some (.lst xs) => if decide (xs.length < 16777216) then .ok .non (st.set k (.lst (xs ++ [y]))) else .bad
    | _ => .bad
  | _ => .bad
def sPopAt (x y : PV) (st : Sto) : Res PV := match x, y with
  | .ref k, .int i => match st[k]? with
    | some (.lst xs) => match seqIndex? i xs.length with
      | some j => match xs[j]? with
        | some z => if decide (-(2 ^ 63) ≤ i) && decide (i < 2 ^ 63) then .ok z (st.set k (.lst (xs.eraseIdx j))) else .bad
        | none => .bad
      | none => .bad
    | _ => .bad
  | _, _ => .bad
def isLst (x : PV) (st : Sto) : Bool := match x with
  | .ref k => match st[k]? with
    | some (.lst _) => true
    | _ => false
  | _ => false
def mAppend (a b : M) : M := fun env st => (a env st).bind fun x s1 => if isLst x s1 = true then (b env s1).bind fun y s2 => sApp x y s2 else .bad
def mPopAt (a b : M) : M := fun env st => (a env st).bind fun x s1 => if isLst x s1 = true then (b env s1).bind fun y s2 => sPopAt x y s2 else .bad
variable {o e : Expr} {m m' : M} {apos pos : Pos}
theorem ref_of {K : PySem.W.Frag} {g : G} {H : Hp} {st : Sto} {k : Nat} {v : V} (s : StOk K g H st) {xs : List PV} (q : st[k]? = some (.lst xs)) (r : RV K g H (.ref k) v) : v = .ref (g.f k) ∧ ∃ vs, H (g.f k) = some (.lst vs) ∧ RVL K g H xs vs := by
  cases r with
  | ref hk => exact ⟨rfl, s.at_ k _ q⟩
theorem tyV_lst {K : PySem.W.Frag} {H : Hp} {a : Addr} {vs : List V} (h : H a = some (.lst vs)) : tyV K "list" (.ref a) H := .inl ⟨rfl, _, .of h⟩
theorem isLst_ok {K : PySem.W.Frag} {g : G} {H : Hp} {st : Sto} {x : PV} {v : V} (s : StOk K g H st) (r : RV K g H x v) (e : isLst x st = true) : tyV K "list" v H := by
  unfold isLst at e
  split at e
  · split at e
    · rename_i q
      obtain ⟨rfl, vs, hH, _⟩ := ref_of s q r
      exact tyV_lst hH
    · cases e
  · cases e
theorem recv {E' : XK} {m m' : M} {f : PV → PV → Sto → Res PV} {g : G} {H : Hp} {σ : L2.St} {env : Lo} {st : Sto} {Q : VK} {r : V → List V → Hp → VK → Prop} (s : StOk X.K g H st) (en : EnvOk X.K g H env σ)
    (h : okR T X.K (rV X.K) g H ((m env st).bind fun x s1 => if isLst x s1 = true then (m' env s1).bind fun y s2 => f x y s2 else .bad) Q E)
    (hf : ∀ g H st x y v u, StOk X.K g H st → RV X.K g H x v → RV X.K g H y u → okR T X.K (rV X.K) g H (f x y st) Q E → r v [u] H Q) :
    tBM X.K "list" r (TV T X.K E m) (TL T X.K E (mCons m' mNil)) σ H Q := by
  refine tv_of s en h fun g1 H1 st1 x v e1 s1 en1 r1 h1 => ?_
  split at h1
  · rename_i hl
    refine ⟨isLst_ok s1 r1 hl, ?_⟩
    have hh : okR T X.K (rV X.K) g1 H1 ((mCons m' mNil env st1).bind fun ys s2 => match ys with
      | [y] => f x y s2
      | _ => .bad) Q E := by
      simp only [mCons, mNil]
      cases q : m' env st1 with
      | ok y s2 => rw [q] at h1; exact h1
      | exc n fs s2 => rw [q] at h1; exact h1
      | bad => rw [q] at h1; exact h1
    refine tl_of s1 en1 hh fun g2 H2 st2 ys us e2 s2 en2 r2 h2 => ?_
    split at h2
    · obtain ⟨u, rfl, ry⟩ := one_of r2
      exact hf g2 H2 st2 x _ v u s2 (r1.mono e2) ry h2
    · exact h2.elim
  · exact h1.elim
theorem x_append (ho : EX X T E o m) (ha : EX X T E e m') (na : starEach (e :: []) X.env = (false, eval e X.env) :: starEach [] X.env := by rfl)
    (hp : ∀ {to : TE} {t : TA}, PE X o to → PA X [e] t → PE X (.Call (.Attribute o "append" apos) [e] [] pos) (tBM X.K "list" rAppend to t)) : EX X T E (.Call (.Attribute o "append" apos) [e] [] pos) (mAppend m m') :=
  pe_imp (hp ho (x_cons ha x_nil na)) fun σ H Q ⟨g, st, env, s, en, h⟩ => recv (E' := E) s en h fun g H st x y v u s r1 r2 h => by
    unfold sApp at h
    split at h
    · split at h
      · rename_i k xs q
        split at h
        · rename_i hf
          obtain ⟨rfl, vs, hH, l⟩ := ref_of s q r1
          have xe := ext_write (o := .lst (vs ++ [u])) s q rfl
          refine ⟨_, vs, u, rfl, rfl, hH, by rw [← l.length, sizeLine_eq]; exact of_decide_eq_true hf, ?_⟩
          exact okR.finE h xe (st_write s q rfl ⟨_, upd_same, (l.append (.cons r2 .nil)).mono xe⟩) .non
        · exact h.elim
      · exact h.elim
    · exact h.elim
theorem x_popAt (ho : EX X T E o m) (ha : EX X T E e m') (na : starEach (e :: []) X.env = (false, eval e X.env) :: starEach [] X.env := by rfl)
    (hp : ∀ {to : TE} {t : TA}, PE X o to → PA X [e] t → PE X (.Call (.Attribute o "pop" apos) [e] [] pos) (tBM X.K "list" rPopAt to t)) : EX X T E (.Call (.Attribute o "pop" apos) [e] [] pos) (mPopAt m m') :=
  pe_imp (hp ho (x_cons ha x_nil na)) fun σ H Q ⟨g, st, env, s, en, h⟩ => recv (E' := E) s en h fun g H st x y v u s r1 r2 h => by
    unfold sPopAt at h
    split at h
    · split at h
      · rename_i q
        split at h
        · rename_i j hj
          split at h
          · rename_i z hz
            split at h
            · rename_i hf
              simp only [Bool.and_eq_true, decide_eq_true_eq] at hf
              cases r2
              obtain ⟨rfl, vs, hH, l⟩ := ref_of s q r1
              obtain ⟨w, hw, rw'⟩ := l.get hz
              have xe := ext_write (o := .lst (vs.eraseIdx j)) s q rfl
              refine ⟨_, vs, _, j, w, rfl, rfl, hH, hf.1, hf.2, by rw [← l.length]; exact hj, hw, ?_⟩
              exact okR.finE h xe (st_write s q rfl ⟨_, upd_same, (l.eraseIdx j).mono xe⟩) (rw'.mono xe)
            · exact h.elim
          · exact h.elim
        · exact h.elim
      · exact h.elim
    · exact h.elim
end
end Sim

set_option Elab.async false
set_option linter.all false
set_option maxRecDepth 100000
set_option maxHeartbeats 4000000
namespace Sim
open PySem PySem.Spec PyProof.Rows L2

/-! ### the law's end -/
/-- the script as the law is handed it -/
def scriptP (ns : List Int) : PV := .rol (ns.map .int)
/-- no lambdas -/
abbrev tb0 : Tb := ⟨[]⟩
theorem law_end {T : World → String → Value} {l : PySem.W.OpenLaw} {n k : Nat} {q : Program} {loose : List Str} {XP : (Str → Option Value) → Heap → Prop} {YP : World → Heap → Prop} {d : DefRec} {K : Params → PySem.W.Frag} {x : Str} {F : MF}
    (hn : l.most = some n) (hn2 : n ≤ sizeLine) (hdf : d.params.defaults = []) (hr : Room k callerA) (hY : ∀ (w : World) (h : Heap), YP w h → (K w.params).In h)
    (hF : ∀ (w : World) (mg : Str → Option Value) (fa : Addr) (h : Heap), (K w.params).In h → h.Ns mainGlobals mg → mg d.name = some (.ref fa) →
      ∃ fd : FuncData, (∀ (s : Shared) (u : Value), BindsTo s fd ⟨[u], []⟩ [(x, u)]) ∧ ∀ base : Heap, (K w.params).In base → base.Ns mainGlobals mg → FnG l.prog w (K w.params) mg base CX0 k fa fd [x] (@spM tb0 (T w) (K w.params) 1 F))
    (good : ∀ ns : List Int, ns.length ≤ n → ∃ st, F [scriptP ns] [] = .ok (.bl true) st) :
    PySem.W.WalkO q loose XP YP l.row.toRowW d [] (fun f vs => PySem.call f vs) := by
  letI : Tb := tb0
  letI : Lm := lm0
  refine Att.attach_call hn hdf ?_
  intro w s₀ s₁ mg mb fa o pm cd doc a vs ns G Y ho hd hcd hmg hobj hints hlen hg
  have KX := hY w _ Y
  obtain ⟨fd, hb, hfn⟩ := hF w mg fa _ KX G.T.g hmg
  have rv := vals_ints hints
  have lenV := hints.length
  have hl : ns.length ≤ sizeLine := Nat.le_trans hlen hn2
  -- what is tracked: the script, if it is no object of the module's own
  have main : ∀ H : Hp, (∀ b u, H b = some u → b = a ∧ u = .frz { cls := .type "list", data := .seq vs.toArray } (.lst (ns.map V.int)) ∧ (K w.params).lookup a = none) → (∃ g : Sim.G, StOk (K w.params) g H [] ∧ RV (K w.params) g H (scriptP ns) (.ref a)) →
      codeAny (model l.prog w) callerA (.call (.ref fa) ⟨[.ref a], []⟩) (fun r s' => r = .ok (.ret (.bool true)) ∧ OldK s₁.heap s'.heap ∧ s'.os = s₁.os ∧ AllBare s'.gens) s₁ := by
    intro H hH ⟨g, so, rs⟩
    have hid : ∀ {b : Addr} {ob : Obj}, s₁.heap.get? b = some ob → H b = none → (hidT s₁.heap H).get? b = some ob := fun e n => hidT_get e n
    have nodict : ∀ {b : Addr} {ob : Obj} {es : Array DictEntry} {ep : Nat}, s₁.heap.get? b = some ob → ob.data = .dict es ep → H b = none := by
      intro b ob es ep e dd
      cases qq : H b with
      | none => rfl
      | some u =>
        obtain ⟨rfl, _, _⟩ := hH b u qq
        rw [hobj] at e; cases e
        cases (show Data.seq vs.toArray _ = Data.dict es ep from dd)
    have ns' : ∀ {b : Addr} {m : Str → Option Value}, s₁.heap.Ns b m → (hidT s₁.heap H).Ns b m := by
      rintro b m ⟨ob, es, ep, e, dd, r⟩
      exact ⟨ob, es, ep, hid e (nodict e dd), dd, r⟩
    have hKb : (K w.params).In (hidT s₁.heap H) := by
      intro b ob e
      refine hid (KX b ob e) ?_
      cases qq : H b with
      | none => rfl
      | some u =>
        obtain ⟨rfl, _, z⟩ := hH b u qq
        rw [z] at e; cases e
    have hM : Mod (K w.params) mg (hidT s₁.heap H) := by
      refine ⟨hKb, ns' G.T.g, ⟨mb, ns' G.T.b, G.T.builtins⟩, ?_⟩
      obtain ⟨mc, h1, h2⟩ := G.T.nolimit
      exact ⟨mc, ns' h1, h2⟩
    have hokH : HOk l.prog w H s₁.heap := by
      intro b u e
      obtain ⟨rfl, rfl, _⟩ := hH b u e
      exact ⟨hobj, by rw [List.length_map]; exact hl, vs, _, rv, hobj⟩
    have e0 : Env0 l.prog w (K w.params) mg (hidT s₁.heap H) callerA [] s₁ H :=
      ⟨rfl, hM, fun b ob e => of_hidT e, Nat.le_of_eq (hidT_size _ _), trivial, fun b hb => absurd (show b ∈ ([] : List Addr) from hb) (by simp), hokH, .of_eq hg⟩
    obtain ⟨st, hgood⟩ := good ns hlen
    have sp : spM (T w) (K w.params) 1 F [.ref a] H (fun v _ => v = .bl true) E0 := by
      refine ⟨rfl, g, [], [scriptP ns], so, .cons rs .nil, ?_⟩
      rw [hgood]
      intro g' H' v _ _ r
      cases r
      rfl
    have run := (hfn _ hKb (ns' G.T.g)).go callerA [] s₁ H ⟨[.ref a], []⟩ [.ref a] [.ref a] _ E0 rfl hr e0 (hb s₁ (.ref a)) (.cons rfl .nil) sp
    refine codeAny_mono run ?_
    intro r s' h
    match r, h with
    | .ok (.ret u), ⟨v, H', os, bare, un, hok', r', qv⟩ =>
      have qv' : v = .bl true := qv
      subst qv'
      obtain rfl : u = Value.bool true := r'
      refine ⟨rfl, OldK.of_keep ?_, os, bare⟩
      intro b ob e
      cases qq : H b with
      | none => exact un.keep b ob e qq (by intro z; exact absurd (show b ∈ ([] : List Addr) from z) (by simp)) (by simp)
      | some u =>
        obtain ⟨rfl, rfl, _⟩ := hH b u qq
        have z2 := un.frzs b _ _ qq
        obtain ⟨e2, _⟩ := hok' b _ z2
        rw [hobj] at e; cases e
        exact e2
  have inil : ∀ {H : Hp} (F : Addr → Prop), (∀ a, F a → nt H a) → StOk (K w.params) ⟨0, fun _ => 0, F, fun _ => False⟩ H [] := fun F hF =>
    ⟨rfl, fun i j hi => absurd hi (Nat.not_lt_zero _), fun i m e => by simp at e, hF, fun a h => h.elim, fun i m e => by simp at e, fun p hp => nomatch hp⟩
  cases hk : (K w.params).lookup a with
  | some ob =>
    have e := KX a ob hk
    rw [hobj] at e
    cases e
    refine main (fun _ => none) (fun b u e => by cases e) ⟨_, inil (fun _ => False) (fun _ h => h.elim), .rolK (vs := ns.map V.int) (fun H' => .inr ⟨_, vs.toArray, _, hk, rfl, rfl, rfl, by rw [List.size_toArray, lenV]; exact hl, by simpa using rv⟩) (fun H' => .kList hk rfl) (RVL.ofInts ns)⟩
  | none =>
    refine main (fun b => if b = a then some (.frz { cls := .type "list", data := .seq vs.toArray } (.lst (ns.map V.int))) else none) ?_ ?_
    · intro b u e
      by_cases hb : b = a
      · rw [if_pos hb] at e
        cases e
        exact ⟨hb, rfl, hk⟩
      · rw [if_neg hb] at e
        cases e
    · refine ⟨_, inil (fun b => b = a) ?_, .rol rfl (if_pos rfl) (RVL.ofInts ns)⟩
      intro b hb
      exact ⟨_, if_pos hb, nofun⟩
instance (priority := 1) tbI : Tb := tb0
instance (priority := 1) lmI : Lm := lm0
end Sim

set_option Elab.async false
set_option linter.all false
set_option maxRecDepth 100000
set_option maxHeartbeats 4000000
/-! a set of texts: made of a list, then sorted -/
namespace SimS
open PySem PySem.Spec PyProof.Rows L2

def txt (e : Int × Value) : Str := match e.2 with
  | .str x _ => x
  | _ => Str.empty
def IsTx (w : World) (e : Int × Value) : Prop := ∃ x t, e.2 = Value.str x t ∧ e.1 = hashStr w x
/-- a set of texts that can be walked -/
def Tx (w : World) (h : Heap) (a : Addr) (S : Str → Prop) (n : Nat) : Prop :=
  ∃ o es ep t, (h.get? a = some o ∧ o.ExactSet ∧ o.data = .set es ep t) ∧ (∀ e ∈ es.toList, IsTx w e) ∧ (es.toList.map txt).Nodup ∧ (∀ k, S k ↔ k ∈ es.toList.map txt) ∧
    t.fits es.size = true ∧ Ris t.place.toList ∧ (w.params.followText "set-order" = true ∨ t.led = true) ∧ es.size ≤ n
section
variable {P : Program} {w : World} {h h' : Heap} {a : Addr} {S : Str → Prop} {n : Nat}
theorem Tx.stay (R : Tx w h a S n) (k : ∀ o, h.get? a = some o → h'.get? a = some o) : Tx w h' a S n := by
  obtain ⟨o, es, ep, t, ⟨ho, r1⟩, r⟩ := R
  exact ⟨o, es, ep, t, ⟨k o ho, r1⟩, r⟩
theorem elems_tx {l : List (Int × Value)} (g : ∀ e ∈ l, IsTx w e) : ElemsOf (PySem.strKind P w) l := by
  intro e he
  obtain ⟨x, t, h1, h2⟩ := g e he
  refine ⟨⟨x, ?_, h2⟩, ?_⟩
  · rw [h1]; exact strKind_is P w x t
  · rw [h1] <;> rfl
theorem is_tx {e : Int × Value} (g : IsTx w e) (k : Str) : (PySem.strKind P w).is k e.2 = true ↔ txt e = k := by
  obtain ⟨x, t, h1, _⟩ := g
  unfold txt
  rw [h1]
  constructor
  · intro q
    obtain ⟨t', e2⟩ := Value.isStrOf_shape (x := k) (v := .str x t) q
    injection e2
  · intro q
    subst q
    exact strKind_is P w x t
theorem mem_tx {l : List (Int × Value)} (g : ∀ e ∈ l, IsTx w e) (k : Str) : k ∈ l.map txt ↔ ∃ e ∈ l, (PySem.strKind P w).is k e.2 = true := by
  rw [List.mem_map]
  exact ⟨fun ⟨e, he, q⟩ => ⟨e, he, (is_tx (g e he) k).2 q⟩, fun ⟨e, he, q⟩ => ⟨e, he, (is_tx (g e he) k).1 q⟩⟩
end
section
variable {P : Program} {w : World} {A : Around} {E : Value → Shared → Prop} {s : Shared} {a : Addr}
/-- what is stored behind the search -/
theorem put_tail {g : Bool → Sem Unit} (hg : ∀ (b : Bool) (s₁ : Shared) (Q' : Unit → Shared → Prop), Q' () s₁ → wpAny (model P w) A (g b) Q' E s₁) {o : Obj} {es : Array (Int × Value)} {ep : Nat} {t : SetTable}
    (ho : s.heap.get? a = some o) (hex : o.ExactSet) (hd : o.data = .set es ep t) {new : Array (Int × Value)} {t2 : SetTable} {S : Str → Prop} (g1 : ∀ e ∈ new.toList, IsTx w e) (nd : (new.toList.map txt).Nodup)
    (mm : ∀ k, S k ↔ k ∈ new.toList.map txt) (hb : new.size < scanBound) (hf : t2.fits new.size = true) (hr : Ris t2.place.toList) (hl : w.params.followText "set-order" = true ∨ t2.led = true) {dum : Bool} {R : Option Bool → Shared → Prop}
    (hR : ∀ h', Heap.SameBut a s.heap h' → Tx w h' a S new.size → R (some true) { s with heap := h' }) :
    wpAny (model P w) A (do
        storeSet a new t2
        if (!dum && t2.tooFull) = true then do
          g (relayAll t2 new (SetTable.grown new.size)).2.2
          storeSet a (relayAll t2 new (SetTable.grown new.size)).1 (relayAll t2 new (SetTable.grown new.size)).2.1
          pure (some true)
        else pure (some true)) R E s := by
  refine wpAny_bind (wpAny_storeSet_of ho hd ?_ (fits_of_scanBound hb))
  have o1 := store_at (es' := new) (t' := t2) ho hd
  have same1 := Heap.SameBut.update s.heap a (Obj.putSet new t2)
  split
  · have p := relayAll_perm t2 new (SetTable.grown new.size)
    have f3 := relayAll_fits t2 new (SetTable.grown new.size)
    have r3 := relayAll_ris t2 new (SetTable.grown new.size)
    have l3 := relayAll_led t2 new (SetTable.grown new.size)
    generalize relayAll t2 new (SetTable.grown new.size) = Z at p f3 r3 l3 ⊢
    obtain ⟨es2, t3, gave⟩ := Z
    dsimp only at p f3 r3 l3 ⊢
    have same : es2.size = new.size := by rw [← Array.length_toList, p.length_eq, Array.length_toList]
    have b2 : es2.size < scanBound := same ▸ hb
    refine wpAny_bind (hg _ _ _ ?_)
    refine wpAny_bind (wpAny_storeSet_of o1 rfl ?_ (fits_of_scanBound b2))
    have o2 := store_at (es' := es2) (t' := t3) o1 rfl
    refine wpAny_pure (hR _ (same1.trans (Heap.SameBut.update _ a _)) ⟨_, es2, _, t3, ⟨o2, hex, rfl⟩, fun e he => g1 e (p.mem_iff.mp he), ?_, fun k => ?_, f3, r3, ?_, Nat.le_of_eq same⟩)
    · exact (p.map txt).nodup_iff.mpr nd
    · rw [mm k]; exact (p.map txt).mem_iff.symm
    · rw [l3]; exact hl
  · exact wpAny_pure (hR _ same1 ⟨_, new, _, t2, ⟨o1, hex, rfl⟩, g1, nd, mm, hf, hr, hl, Nat.le_refl _⟩)
theorem add_tx {x : Str} {tk : Tok} {S : Str → Prop} {n : Nat} {Q : Bool → Shared → Prop} (R : Tx w s.heap a S n) (room : n + 1 < scanBound)
    (hQ : ∀ b h', Heap.SameBut a s.heap h' → Tx w h' a (fun k => S k ∨ k = x) (n + 1) → Q b { s with heap := h' }) : wpAny (model P w) A (setAddHashed a (.str x tk) ((PySem.strKind P w).hash x)) Q E s := by
  obtain ⟨o, es, ep, t, ⟨ho, hex, hd⟩, g, nd, hm, hf, hr, hl, hn⟩ := R
  have hroom : es.size + 1 < scanBound := Nat.lt_of_le_of_lt (Nat.succ_le_succ hn) room
  have hb : es.size < scanBound := Nat.lt_of_succ_lt hroom
  have isx : (PySem.strKind P w).is x (.str x tk) = true := strKind_is P w x tk
  have scn : (Value.str x tk).scannable = true := rfl
  have el : ElemsOf (PySem.strKind P w) es.toList := elems_tx g
  unfold setAddHashed setAddHashedIn
  refine wpAny_holding (wpAny_bind (wpAny_setState_of ho hd hf ?_))
  dsimp only
  rw [byScan_of scn hb el]
  simp only [↓reduceIte]
  unfold setAddByScan
  refine wpAny_bind ?_
  refine wpAny_bind (wpAny_rule ?_)
  refine wpAny_bind (wpAny_setScan_of isx ho hd hf el ?_)
  cases fi : List.findIdx? (fun e => (PySem.strKind P w).is x e.2) es.toList with
  | some j =>
    dsimp only
    obtain ⟨hj, pj, _⟩ := List.findIdx?_eq_some_iff_getElem.mp fi
    have hS : S x := (hm x).2 ((mem_tx (P := P) (w := w) g x).2 ⟨es.toList[j], List.getElem_mem hj, pj⟩)
    refine wpAny_pure (wpAny_pure ?_)
    refine hQ _ s.heap (Heap.SameBut.refl a s.heap) ⟨o, es, ep, t, ⟨ho, hex, hd⟩, g, nd, fun k => ?_, hf, hr, hl, Nat.le_succ_of_le hn⟩
    rw [← hm k]
    exact ⟨fun z => z.elim id fun e => e ▸ hS, .inl⟩
  | none =>
    dsimp only
    have nx : x ∉ es.toList.map txt := by
      intro z
      obtain ⟨e, he, q⟩ := (mem_tx (P := P) (w := w) g x).1 z
      have c := List.findIdx?_eq_none_iff.mp fi e he
      rw [q] at c
      cases c
    have hgw : ∀ (b : Bool) {s₁ : Shared} {Q' : Unit → Shared → Prop}, Q' () s₁ → wpAny (model P w) A (match b with | true => rule "set.scan.the-table-gave-way" | false => pure ()) Q' E s₁ := by
      intro b s₁ Q' q
      cases b
      · exact wpAny_pure q
      · exact wpAny_rule q
    have p := layNew_perm t es ((PySem.strKind P w).hash x) (.str x tk)
    have f1 := layNew_fits t es ((PySem.strKind P w).hash x) (.str x tk)
    have r1 := layNew_ris t es ((PySem.strKind P w).hash x) (.str x tk) hr
    have l1 := layNew_led t es ((PySem.strKind P w).hash x) (.str x tk)
    generalize layNew t es ((PySem.strKind P w).hash x) (.str x tk) = Z at p f1 r1 l1 ⊢
    obtain ⟨new, t1, dum, gave⟩ := Z
    dsimp only at p f1 r1 l1 ⊢
    rw [Array.toList_push] at p
    have pc : new.toList.Perm (((PySem.strKind P w).hash x, Value.str x tk) :: es.toList) := p.trans (List.perm_append_singleton _ _)
    have pk : (new.toList.map txt).Perm (x :: es.toList.map txt) := pc.map txt
    have g1 : ∀ e ∈ new.toList, IsTx w e := by
      intro e he
      rcases List.mem_cons.mp (pc.mem_iff.mp he) with z | z
      · rw [z]; exact ⟨x, tk, rfl, rfl⟩
      · exact g e z
    have nd1 : (new.toList.map txt).Nodup := pk.nodup_iff.mpr (List.nodup_cons.mpr ⟨nx, nd⟩)
    have m1 : ∀ k, (S k ∨ k = x) ↔ k ∈ new.toList.map txt := by
      intro k
      rw [hm k, pk.mem_iff, List.mem_cons]
      exact Or.comm
    have hsz : new.size = es.size + 1 := by rw [← Array.length_toList, pc.length_eq, List.length_cons, Array.length_toList]
    have hb1 : new.size < scanBound := hsz ▸ hroom
    have led1 : w.params.followText "set-order" = true ∨ t1.led = true := by rw [l1]; exact hl
    have fin : ∀ h', Heap.SameBut a s.heap h' → Tx w h' a (fun k => S k ∨ k = x) new.size → Q true { s with heap := h' } := by
      intro h' sb r
      refine hQ true h' sb ?_
      obtain ⟨o', es', ep', t', q1, q2, q3, q4, q5, q6, q7, q8⟩ := r
      exact ⟨o', es', ep', t', q1, q2, q3, q4, q5, q6, q7, by omega⟩
    refine wpAny_bind (hgw _ ?_)
    split
    · refine wpAny_bind ?_
      rw [hashByValue_scannable 8 scn]
      refine wpAny_pure ?_
      refine put_tail ?_ ho hex hd g1 nd1 m1 hb1 ?_ ?_ ?_ ?_
      · intro b s₁ Q' q; cases b <;> first | exact wpAny_pure q | exact wpAny_rule q
      · first | (split <;> first | exact f1 | exact SetTable.fits_plain_off f1) | exact f1
      · first | (split <;> exact r1) | exact r1
      · first | (split <;> exact led1) | exact led1
      · intro h' sb r; dsimp only; exact wpAny_pure (fin h' sb r)
    · refine wpAny_bind (wpAny_pure ?_)
      simp only [↓reduceIte]
      refine put_tail ?_ ho hex hd g1 nd1 m1 hb1 f1 r1 led1 ?_
      · intro b s₁ Q' q; cases b <;> first | exact wpAny_pure q | exact wpAny_rule q
      · intro h' sb r; dsimp only; exact wpAny_pure (fin h' sb r)
end
section
variable {P : Program} {w : World} {A : Around} {R : Result → Shared → Prop} {I : Addr} {fp wr : List Addr} {G : Array GenState → Array GenState → Prop} {n : Nat} {Pv : Nat → Value → Prop} {St : Nat → Shared → Prop}
/-- the walk through the list, each text added -/
theorem fill_tx (W : WalksS P w A.in1 I fp wr G n Pv St) (S : Addr) (out : S ∉ fp) (xs : List Str) (hsz : xs.length = n) (few : n + 1 < scanBound) (hval : ∀ i v, Pv i v → ∃ t, v = .str (xs.getD i Str.empty) t) :
    ∀ (k i : Nat) (s : Shared), n - i = k → i ≤ n → St i s → Tx w s.heap S (fun y => y ∈ xs.take i) i →
      (∀ s', Moved (S :: wr) G s s' → Tx w s'.heap S (fun y => y ∈ xs) n → R (.ok (.ret .none)) s') → codeAny (model P w) A (.builtin "set.update.loop" ⟨[.ref S, .ref I], []⟩) R s := by
  have notW : S ∉ wr := fun z => out (W.sub _ z)
  have sub : ∀ b ∈ wr, b ∈ S :: wr := fun b hb => List.mem_cons_of_mem _ hb
  intro k
  induction k with
  | zero =>
    intro i s hk hi hst hS hR
    obtain rfl : i = n := by omega
    refine codeAny_builtin PyProof.Rows.F.entry_set_update_loop ?_
    rw [Around.under_plainId PyProof.Rows.F.plain_set_update_loop _]
    refine (show wpAny _ A.in1 (pyNext (.ref I) >>= _) _ _ s from wpAny_bind (W.done s _ _ hst ?_))
    intro s' hm
    refine (show wpAny _ A.in1 (ret Value.none) _ _ s' from wpAny_pure (hR s' (hm.mono sub) ?_))
    have q := hS.stay (h' := s'.heap) fun o e => hm.heap S o notW e
    rw [← hsz, List.take_length] at q
    rw [hsz] at q
    exact q
  | succ k ih =>
    intro i s hk hi hst hS hR
    have lt : i < n := by omega
    refine codeAny_builtin PyProof.Rows.F.entry_set_update_loop ?_
    rw [Around.under_plainId PyProof.Rows.F.plain_set_update_loop _]
    refine (show wpAny _ A.in1 (pyNext (.ref I) >>= _) _ _ s from wpAny_bind (W.item i s _ _ lt hst ?_))
    intro v s' hP hst' hm
    obtain ⟨t, rfl⟩ := hval i v hP
    have hS' := hS.stay (h' := s'.heap) fun o e => hm.heap S o notW e
    refine (show wpAny _ A.in1 (holding [Value.str (xs.getD i Str.empty) t] (setAdd S (.str (xs.getD i Str.empty) t)) >>= _) _ _ s' from wpAny_bind (wpAny_holding ?_))
    unfold setAdd
    refine wpAny_holding (wpAny_bind ((PySem.strKind P w).pyHash (k := xs.getD i Str.empty) (strKind_is _ _ _ _) ?_))
    refine add_tx (s := { s' with toks := s'.toks + 1 }) hS' (by omega) ?_
    intro b h' sb hS2
    have hi' : i < xs.length := by omega
    have next : Tx w h' S (fun y => y ∈ xs.take (i + 1)) (i + 1) := by
      obtain ⟨o', es', ep', t', q1, q2, q3, q4, q⟩ := hS2
      refine ⟨o', es', ep', t', q1, q2, q3, fun y => ?_, q⟩
      rw [← q4 y]
      show y ∈ xs.take (i + 1) ↔ (y ∈ xs.take i ∨ y = xs.getD i Str.empty)
      rw [List.take_add_one, List.mem_append, List.getElem?_eq_getElem hi', List.getD_eq_getElem?_getD, List.getElem?_eq_getElem hi']
      simp
    have other : ∀ c, c ≠ S → h'.get? c = s'.heap.get? c := fun c hc => sb.2 c hc
    refine wpAny_pure ⟨plainId_quiet PyProof.Rows.F.plain_set_update_loop _, ih (i + 1) _ (by omega) lt (W.frame _ s' _ _ hst' (Nat.le_succ _) ?_) next ?_⟩
    · intro c hc o e
      rw [other c fun z => out (z ▸ hc)]; exact e
    · intro s'' hm'' hS''
      refine hR s'' (Moved.trans W.gtrans ((hm.mono sub).then_heap (Nat.le_succ _) ?_) hm'') hS''
      intro c o hc e
      rw [other c fun z => hc (z ▸ List.mem_cons_self)]; exact e
end
section
variable {P : Program} {w : World} {A : Around} {E : Value → Shared → Prop} {s : Shared}
theorem tx_at : ∀ {vs : List Value} {xs : List Str}, PyProof.Rows.StrsAre vs xs → ∀ (i : Nat) (v : Value), vs[i]? = some v → ∃ t, v = .str (xs.getD i Str.empty) t
  | _, _, .nil, i, v, h => by simp at h
  | _, _, .cons n t r, 0, v, h => by
    have e : Value.str n t = v := by simpa using h
    exact ⟨t, by rw [← e]; simp⟩
  | _, _, .cons n t r, i + 1, v, h => by
    obtain ⟨t', e⟩ := tx_at r i v (by simpa using h)
    exact ⟨t', by rw [e]; simp⟩
/-- the empty set as set(..) lays it -/
def bare (w : World) : Obj := { cls := .type "set", dict := none, data := .set #[] 0 (.fresh 0 0 (!w.params.followText "set-order")) }
theorem bare_tx {h : Heap} (w : World) {a : Addr} (e : h.get? a = some (bare w)) : Tx w h a (fun y => y ∈ ([] : List Str)) 0 := by
  refine ⟨_, #[], 0, _, ⟨e, ⟨rfl, rfl, rfl⟩, rfl⟩, fun e he => by simp at he, by simp, fun k => by simp, by rfl, List.Pairwise.nil, ?_, Nat.zero_le _⟩
  cases q : w.params.followText "set-order"
  · exact .inr rfl
  · exact .inl rfl
theorem call_set_tx {l : Addr} {items : Array Value} {xs : List Str} {Q : Value → Shared → Prop} (hh : A.handled = none) (hl : s.heap.IsList l items) (hi : PyProof.Rows.StrsAre items.toList xs) (few : xs.length + 1 < scanBound)
    (h : ∀ (h' : Heap) (tk : Nat), Tx w h' s.heap.objs.size (fun y => y ∈ xs) xs.length → (∀ b o, s.heap.get? b = some o → h'.get? b = some o) → Q (.ref s.heap.objs.size) { s with heap := h', toks := tk }) :
    wpAny (model P w) A (call (.type "set") [.ref l]) Q E s := by
  have hsz : xs.length = items.size := by rw [← StrsAre.len_eq hi, Array.length_toList]
  obtain ⟨c, tl, hmro⟩ := F.called_set.mro
  have m1 := F.called_set.made; have m2 := F.called_set.sub
  refine wpAny_call (codeAny_of_tree (show wpAny _ _ (callAny (.type "set") _) _ _ _ from ?_))
  refine wpAny_pure ⟨Code.quiet_builtin _ (by decide +kernel), codeAny_builtin F.entry_type_call ?_⟩
  rw [Around.under_plain (weight_type_call_type "set" [.ref l] []) rfl]
  have m3 := F.called_set.notType; have m4 := F.called_set.canCreate; have m5 := F.typeCall_set_1 (.ref l)
  repeat (any_goals (first | assumption | wp_step))
  have new := code_set_led1 (P := P) (w := w) (A := A.in1) (s := s) (.ref l) (E := E) (Q₁ := fun obj s₁ => obj = .ref s.heap.objs.size ∧ s₁ = { s with heap := s.heap.push (bare w) }) ⟨rfl, rfl⟩
  refine codeAny_mono new ?_
  intro r s₁ hr
  match r, hr with
  | .error e, hr => exact hr
  | .ok (.ret obj), ⟨e1, e2⟩ =>
    subst e1 e2
    have hS : (s.heap.push (bare w)).get? s.heap.objs.size = some (bare w) := Heap.get?_push_size _ rfl
    have hT : Shared.TypeIs { s with heap := s.heap.push (bare w) } (.ref s.heap.objs.size) "set" := ⟨_, hS, rfl⟩
    have m6 := F.called_set.init.lookup; have m7 := F.called_set.init.bind (.ref s.heap.objs.size)
    repeat (any_goals (first | assumption | wp_step))
    refine codeAny_mono (codeAny_call_builtin (R := wants (fun r s₂ => r = .none ∧ ∃ h' tk, s₂ = { s with heap := h', toks := tk } ∧ Tx w h' s.heap.objs.size (fun y => y ∈ xs) xs.length ∧
      (∀ b o, s.heap.get? b = some o → h'.get? b = some o)) E) F.called_set.init.plain F.entry_set_init (check_set_init_1 hT ?_)) ?_
    · obtain ⟨⟨ocls, odict, odata, oslots⟩, hol, hcl, nl, hdl⟩ := hl
      simp only at hcl hdl
      subst hcl; subst hdl
      have there : (s.heap.push (bare w)).get? l = some { cls := .type "list", dict := odict, data := .seq items nl, slots := oslots } := Heap.get?_push_of_some _ hol
      have n1 := F.sub_list_set; have n2 := F.sub_list_frozenset
      have n3 : (Value.type "list" == Value.type "dict") = false := by decide
      have lst : (s.heap.push (bare w)).IsList l items := ⟨_, there, rfl, nl, rfl⟩
      unfold Builtin.«set.__init__» noKeywords Builtin.Frozenset.updateFrom
      generalize hPI : pyIter = PI
      wp_walk
      subst hPI
      refine wpAny_pyIter_list lst (wpAny_bind (wpAny_runValue ?_))
      have below : l < s.heap.objs.size := Heap.lt_size hol
      have quiet : A.in1.in1.in1.handled = none := by simp [hh]
      have apart : l ≠ (s.heap.push (bare w)).objs.size := by rw [Heap.size_push]; exact Nat.ne_of_lt (Nat.lt_succ_of_lt below)
      have off : s.heap.objs.size ∉ [(s.heap.push (bare w)).objs.size, l] := by
        rw [Heap.size_push]
        simp only [List.mem_cons, List.not_mem_nil, or_false, not_or]
        exact ⟨Nat.ne_of_lt (Nat.lt_succ_self _), Nat.ne_of_gt below⟩
      have vals : ∀ (i : Nat) (v : Value), items[i]? = some v → ∃ t, v = .str (xs.getD i Str.empty) t := by
        intro i v hv
        exact tx_at hi i v (by rw [Array.getElem?_toList]; exact hv)
      have here : ((s.heap.push (bare w)).push { cls := .type "list_iterator", data := .fields #[.ref l, .int 0 0] }).get? s.heap.objs.size = some (bare w) := Heap.get?_push_of_some _ hS
      refine fill_tx (P := P) (w := w) ((Walks.list quiet _ l apart items).toS) s.heap.objs.size off xs hsz (by rw [← hsz]; exact few) vals (items.size - 0) 0 _ (by omega) (Nat.zero_le _) ⟨⟨_, Heap.get?_push_size _ rfl, rfl, rfl⟩, (lst.push _)⟩ (bare_tx w here) ?_
      rintro ⟨h', g', d', tk', os'⟩ hm hS'
      obtain rfl : g' = s.gens := hm.gens
      obtain rfl : d' = s.drawn := hm.drawn
      obtain rfl : os' = s.os := hm.os
      refine (show wpAny _ _ _ _ _ _ from wpAny_pure (show wpAny _ _ (ret Value.none) _ _ _ from wpAny_pure ⟨rfl, h', tk', rfl, by rw [hsz]; exact hS', ?_⟩))
      intro b o e
      have hb := Heap.lt_size e
      have k1 : b ≠ s.heap.objs.size := Nat.ne_of_lt hb
      have k2 : b ≠ (s.heap.push (bare w)).objs.size := by rw [Heap.size_push]; exact Nat.ne_of_lt (Nat.lt_succ_of_lt hb)
      exact hm.heap b o (by simp only [List.mem_cons, List.not_mem_nil, or_false, not_or]; exact ⟨k1, k2⟩) (Heap.get?_push_of_some _ (Heap.get?_push_of_some _ e))
    · intro r₂ s₂ hr₂
      match r₂, hr₂ with
      | .error e, hr₂ => exact hr₂
      | .ok (.ret r), ⟨e1, h', tk, e2, hS', hk'⟩ =>
        subst e1 e2
        repeat (any_goals (first | assumption | wp_step))
        exact h _ _ hS' hk'
theorem strs_of : ∀ (l : List Value), (∀ v ∈ l, ∃ k tk, v = Value.str k tk) → PyProof.Rows.StrsAre l (l.map PyProof.Rows.strOf)
  | [], _ => .nil
  | v :: l, h => by
    obtain ⟨k, tk, rfl⟩ := h v List.mem_cons_self
    exact .cons k tk (strs_of l fun u hu => h u (List.mem_cons_of_mem _ hu))
/-- sorted of it -/
theorem sorted_tx {a : Addr} {S : Str → Prop} {n : Nat} {Q : Value → Shared → Prop} (R : Tx w s.heap a S n) (few : n < scanBound) (hh : A.handled = none)
    (hQ : ∀ s' p (out : Array Value) (c : Nat) (ys : List Str), (∀ b o, s.heap.get? b = some o → s'.heap.get? b = some o) → s'.gens = s.gens → s'.os = s.os → s.heap.objs.size ≤ p →
      s'.heap.get? p = some (seqObj "list" out c) → PyProof.Rows.StrsAre out.toList ys → ys.Nodup → (∀ k, k ∈ ys ↔ S k) → PyProof.Rows.sortedS ys = true → Q (.ref p) s') :
    wpAny (model P w) A (call (.builtin "sorted") [.ref a]) Q E s := by
  obtain ⟨o, es, ep, t, ⟨ho, hex, hd⟩, g, nd, hm, hf, hr, hl, hn⟩ := R
  have hb : es.size < scanBound := Nat.lt_of_le_of_lt hn few
  refine Calls.call_function_entry kind_sorted plain_sorted entry_sorted (args_sorted1 _) ?_
  unfold Builtin.«sorted»
  refine wpAny_bind (m := checkCount "sorted" 1 1 _) (wpAny_pure (wpAny_bind ?_))
  refine collect_set (A := A.in1) hh ⟨o, ho, hex.1, hd⟩ hf hb hr hl ?_
  intro s1 vs k1 hz g1 o1 pm
  have long : vs.length ≤ sizeLine := by
    rw [pm.length_eq, List.length_map, Array.length_toList]
    exact fits_of_scanBound hb
  have tx : PyProof.Rows.StrsAre vs (vs.map PyProof.Rows.strOf) := by
    refine strs_of vs fun v hv => ?_
    obtain ⟨e, he, q⟩ := List.mem_map.mp (pm.mem_iff.mp hv)
    obtain ⟨k, tk, q1, _⟩ := g e he
    exact ⟨k, tk, by rw [← q]; exact q1⟩
  have pk : (vs.map PyProof.Rows.strOf).Perm (es.toList.map txt) := by
    have q := pm.map PyProof.Rows.strOf
    rw [List.map_map] at q
    refine q.trans (List.Perm.of_eq (List.map_congr_left fun e he => ?_))
    obtain ⟨k, tk, q1, _⟩ := g e he
    show PyProof.Rows.strOf e.2 = txt e
    unfold txt
    rw [q1]
    rfl
  refine wpAny_bind (wpAny_newList ?_ long)
  have laid : (s1.heap.push (seqObj "list" vs.toArray 0)).get? s1.heap.objs.size = some (seqObj "list" vs.toArray 0) := Heap.get?_push_size _ rfl
  refine wpAny_bind (wpAny_holding (wpAny_call_entry slot_list_sort ⟨_, laid, rfl⟩ entry_list_sort (PyProof.Rows.list_sort_treeKAny PyProof.Rows.strKind_oneLt laid tx.keysOf (fun v₁ v₂ rest e => PyProof.Rows.keyKind_strs (by rw [← e]; exact tx)) long ?_) (args_list_sort _)))
  intro st' hp hs
  refine ⟨_, rfl, ?_⟩
  obtain ⟨ys, y1, y2, y3⟩ := PyProof.Rows.sorted_out_str tx hp hs
  obtain ⟨c, hc⟩ := sortedHeap_at (vs := vs) (out := (arrOf st').map (·.2)) laid
  have pn := y2.trans pk
  refine wpAny_pure ⟨_, rfl, hQ _ s1.heap.objs.size _ c ys ?_ g1 o1 hz hc y1 (pn.nodup_iff.mpr nd) (fun k => by rw [pn.mem_iff, ← hm k]) y3⟩
  intro b u e
  have q := k1 b u e
  have lt := Heap.lt_size q
  refine (sortedHeap_old (Nat.ne_of_lt lt) (by rw [size_push']; exact Nat.lt_succ_of_lt lt)).trans ?_
  exact Heap.get?_push_of_some _ q
end
end SimS

set_option Elab.async false
set_option linter.all false
set_option maxRecDepth 100000
set_option maxHeartbeats 4000000
namespace Sim
open PySem PySem.Spec PyProof.Rows L2
variable [Tb] [Lm]

theorem hu65 {k : Nat} {A : Around} (r : Room k A) : A.units + 65 < cLine := by have := r.un; omega
theorem hu64 {k : Nat} {A : Around} (r : Room k A) : A.units + 64 < cLine := by have := r.un; omega
/-- what is known of a def of the text -/
structure Df (P : Program) (w : World) (K : PySem.W.Frag) (mg : Str → Option Value) (base : Heap) (T : String → Value) (x : Str) (k : Nat) (ps : List Str) (F : MF) : Prop where
  ex : ∃ f fd, FnG P w K mg base CX0 k f fd ps (spM T K ps.length F) ∧ mg x = some (.ref f) ∧ PySem.W.keepIn K (.ref f) = true ∧ Binds K fd ps []
structure DfK (P : Program) (w : World) (K : PySem.W.Frag) (mg : Str → Option Value) (base : Heap) (T : String → Value) (x : Str) (k : Nat) (ps ks : List Str) (is : List Nat) (F : MF) : Prop where
  ex : ∃ f fd, FnG P w K mg base CX0 k f fd ps (spM T K ps.length F) ∧ mg x = some (.ref f) ∧ PySem.W.keepIn K (.ref f) = true ∧ KB K fd ps ks is
section
variable {X : Cx} {T : String → Value} {E : XK} {k j : Nat} {ps ks : List Str} {is : List Nat} {F : MF} {x : Str} {p pos : Pos} {e : Expr} {es : List Expr} {ms : ML} {kws : List Keyword}
theorem y_call {n : Nat} (d : Df X.prog X.w X.K X.mg X.base T x k ps F) (gd : Gd X.A) (hr : Room j X.A) (hj : k ≤ j) (hg : Gl X x) (ha : AX X T E (e :: es) ms) (hdb : (x == ("__debug__" : Str)) = false := by decide)
    (he : starEach (e :: es) X.env = (false, eval e X.env) :: starEach es X.env := by rfl) (hpl : (backTo pos (starEach es X.env)).any (·.1) = false := by rfl) (hn : ps.length = n := by rfl) : EX X T E (.Call (.Name x p) (e :: es) [] pos) (mApp (fnN n F) ms) := by
  subst hn
  obtain ⟨f, fd, h1, h2, h3, h4⟩ := d.ex
  exact x_call ⟨h1, h2, h3⟩ gd (hr.mono hj) hg h4 ha hdb he hpl
theorem y_call0 (d : Df X.prog X.w X.K X.mg X.base T x k [] F) (gd : Gd X.A) (hr : Room j X.A) (hj : k ≤ j) (hg : Gl X x) (hdb : (x == ("__debug__" : Str)) = false := by decide) : EX X T E (.Call (.Name x p) [] [] pos) (mApp (fnN 0 F) mNil) := by
  obtain ⟨f, fd, h1, h2, h3, h4⟩ := d.ex
  exact x_call0 ⟨h1, h2, h3⟩ gd (hr.mono hj) hg h4 hdb
theorem y_callKw {n m : Nat} (d : DfK X.prog X.w X.K X.mg X.base T x k ps ks is F) (gd : Gd X.A) (hr : Room j X.A) (hj : k ≤ j) (hg : Gl X x) (hkw : KX X T E kws ms) (hall : (backToKw pos (keywordEach kws X.env)).all (·.1.isSome) = true := by rfl)
    (hks : (backToKw pos (keywordEach kws X.env)).filterMap (·.1) = ks := by rfl) (hdb : (x == ("__debug__" : Str)) = false := by decide) (hpl : ((backTo pos (starEach [] X.env)).any (·.1) || (backToKw pos (keywordEach kws X.env)).any (·.1.isNone)) = false := by rfl)
    (hn : ks.length = n := by rfl) (hm : ps.length = m := by rfl) : EX X T E (.Call (.Name x p) [] kws pos) (mApp (fnK n m is F) ms) := by
  subst hn hm
  obtain ⟨f, fd, h1, h2, h3, h4⟩ := d.ex
  exact x_callKw ⟨h1, h2, h3⟩ gd (hr.mono hj) hg h4 hkw hall hks hdb hpl
end
omit [Lm] in
/-- a def's mirror is the def: the form that is used -/
theorem y_def {T : String → Value} {P : Program} {w : World} {K : PySem.W.Frag} {mg : Str → Option Value} {base : Heap} {k : Nat} {f : Addr} {x qual : Str} {st : Stmt} {fd : FuncData} {N ps : List Str} {b : MS} (F : Fun K x qual st f fd) (S : FnScope N ps (defScope st))
    (hbody : ∀ (cdv : Value) (A : Around) (outer : List PySem.Env) (s : Shared) (H : Hp) (E : XK), Gd (A.deeper (envOfC qual (defScope st) s.heap.objs.size f cdv)) → Room k (A.deeper (envOfC qual (defScope st) s.heap.objs.size f cdv)) →
      letI : Lm := lm0; SXs (cxOf CX0 P w K mg base N qual (defScope st) f cdv A outer s H E).nox T E0 (defBody st) b) :
    FnG P w K mg base CX0 (k + 1) f fd ps (spM T K ps.length (defM N.length b)) := by
  letI : Lm := lm0
  refine fnG_of F S (fun vs H Q E h => h.1) fun cdv A outer s H vs Q E gd hr h => ?_
  obtain ⟨hl, g, st', xs, so, l, h⟩ := h
  refine ⟨_, (hbody cdv A outer s H E gd hr).nox, g, st', _, so, env_start (N := N) l, ?_⟩
  unfold defM at h
  show okS T K E0 g H (b (xs.map some ++ List.replicate (N.length - xs.length) none) st') _
  cases q : b (xs.map some ++ List.replicate (N.length - xs.length) none) st' with
  | rt y s => rw [q] at h; exact fun g' H' v e s1 r => gc_ok so e s1 r h
  | nx e s => rw [q] at h; exact fun g' H' σ' e s1 _ => gc_ok so e s1 .non h
  | bk e s => rw [q] at h; exact h.elim
  | ct e s => rw [q] at h; exact h.elim
  | exc n fs s => rw [q] at h; exact h.elim
  | bad => rw [q] at h; exact h.elim

/-! ### sorted(set(texts)) -/
def insU (x : Str) : List Str → List Str
  | [] => [x]
  | y :: ys => if x = y then y :: ys else if x.cps.toList < y.cps.toList then x :: y :: ys else y :: insU x ys
def sortU (l : List Str) : List Str := l.foldr insU []
def sSortSet : Se1 := fun x st => match (asL st x).bind asStrs with
  | some ss => if decide (ss.length < 40) then .ok (.lst ((sortU ss).map .str)) st else .bad
  | none => .bad
/-! the order of texts -/
def ltS (a b : Str) : Prop := a.cps.toList < b.cps.toList
theorem str_ext {a b : Str} (h : a.cps.toList = b.cps.toList) : a = b := by
  obtain ⟨x⟩ := a
  obtain ⟨y⟩ := b
  congr 1
  exact Array.toList_inj.mp h
theorem insU_mem (x k : Str) : ∀ l : List Str, k ∈ insU x l ↔ k = x ∨ k ∈ l
  | [] => by simp [insU]
  | y :: ys => by
    unfold insU
    split
    · rename_i e; subst e; simp
    · split
      · simp
      · rw [List.mem_cons, insU_mem x k ys, List.mem_cons]
        exact ⟨fun h => h.elim (fun z => .inr (.inl z)) fun h => h.elim .inl fun z => .inr (.inr z), fun h => h.elim (fun z => .inr (.inl z)) fun h => h.elim .inl fun z => .inr (.inr z)⟩
theorem sortU_mem (k : Str) : ∀ l : List Str, k ∈ sortU l ↔ k ∈ l
  | [] => by simp [sortU]
  | x :: l => by
    show k ∈ insU x (sortU l) ↔ _
    rw [insU_mem, sortU_mem k l, List.mem_cons]
theorem insU_asc (x : Str) : ∀ l : List Str, l.Pairwise ltS → (insU x l).Pairwise ltS
  | [], _ => by simp [insU]
  | y :: ys, h => by
    obtain ⟨h1, h2⟩ := List.pairwise_cons.mp h
    unfold insU
    split
    · exact h
    · rename_i ne
      split
      · rename_i lt
        refine List.pairwise_cons.mpr ⟨fun z hz => ?_, h⟩
        rcases List.mem_cons.mp hz with e | hz
        · rw [e]; exact lt
        · exact List.lt_trans lt (h1 z hz)
      · rename_i nl
        refine List.pairwise_cons.mpr ⟨fun z hz => ?_, insU_asc x ys h2⟩
        rcases (insU_mem x z ys).mp hz with e | hz
        · rw [e]
          have : ¬ x.cps.toList < y.cps.toList := nl
          have le : y.cps.toList ≤ x.cps.toList := List.not_lt.mp this
          rcases List.le_iff_lt_or_eq.mp le with q | q
          · exact q
          · exact absurd (str_ext q.symm) ne
        · exact h1 z hz
theorem sortU_asc : ∀ l : List Str, (sortU l).Pairwise ltS
  | [] => List.Pairwise.nil
  | x :: l => insU_asc x (sortU l) (sortU_asc l)
theorem asc_same : ∀ {a b : List Str}, a.Pairwise ltS → b.Pairwise ltS → (∀ k, k ∈ a ↔ k ∈ b) → a = b
  | [], [], _, _, _ => rfl
  | [], y :: ys, _, _, h => by have := (h y).mpr List.mem_cons_self; simp at this
  | x :: xs, [], _, _, h => by have := (h x).mp List.mem_cons_self; simp at this
  | x :: xs, y :: ys, ha, hb, h => by
    obtain ⟨a1, a2⟩ := List.pairwise_cons.mp ha
    obtain ⟨b1, b2⟩ := List.pairwise_cons.mp hb
    have irr : ∀ z : Str, ¬ ltS z z := fun z => List.lt_irrefl _
    have e : x = y := by
      rcases List.mem_cons.mp ((h x).mp List.mem_cons_self) with e | h1
      · exact e
      · rcases List.mem_cons.mp ((h y).mpr List.mem_cons_self) with e | h2
        · exact e.symm
        · exact absurd (List.lt_trans (a1 y h2) (b1 x h1)) (irr x)
    subst e
    congr 1
    refine asc_same a2 b2 fun k => ⟨fun hk => ?_, fun hk => ?_⟩
    · rcases List.mem_cons.mp ((h k).mp (List.mem_cons_of_mem _ hk)) with e | z
      · exact absurd (e ▸ a1 k hk) (irr _)
      · exact z
    · rcases List.mem_cons.mp ((h k).mpr (List.mem_cons_of_mem _ hk)) with e | z
      · exact absurd (e ▸ b1 k hk) (irr _)
      · exact z
theorem rising_pw : ∀ {p : Str} {l : List Str}, PyProof.Rows.risingS p l = true → (p :: l).Nodup → (p :: l).Pairwise ltS
  | p, [], _, _ => by simp
  | p, x :: r, h, nd => by
    have h' : (!ltCps x.cps.toList p.cps.toList && PyProof.Rows.risingS x r) = true := h
    rw [Bool.and_eq_true] at h'
    obtain ⟨d1, d2⟩ := List.nodup_cons.mp nd
    have ih := rising_pw h'.2 d2
    obtain ⟨i1, i2⟩ := List.pairwise_cons.mp ih
    have px : ltS p x := by
      have q := h'.1
      rw [PyProof.Rows.ltCps_eq] at q
      have nl : ¬ x.cps.toList < p.cps.toList := by simpa using q
      rcases List.le_iff_lt_or_eq.mp (List.not_lt.mp nl) with z | z
      · exact z
      · exact absurd (List.mem_cons.mpr (.inl (str_ext z))) d1
    refine List.pairwise_cons.mpr ⟨fun z hz => ?_, ih⟩
    rcases List.mem_cons.mp hz with e | hz
    · rw [e]; exact px
    · exact List.lt_trans px (i1 z hz)
theorem sorted_is {ss ys : List Str} (nd : ys.Nodup) (m : ∀ k, k ∈ ys ↔ k ∈ ss) (h : PyProof.Rows.sortedS ys = true) : ys = sortU ss := by
  refine asc_same ?_ (sortU_asc ss) fun k => (m k).trans (sortU_mem k ss).symm
  cases ys with
  | nil => exact List.Pairwise.nil
  | cons p l => exact rising_pw h nd
theorem sortU_len : ∀ l : List Str, (sortU l).length ≤ l.length
  | [] => Nat.le_refl _
  | x :: l => by
    have ins : ∀ m : List Str, (insU x m).length ≤ m.length + 1 := by
      intro m
      induction m with
      | nil => simp [insU]
      | cons y ys ih =>
        unfold insU
        split
        · simp
        · split
          · simp
          · simpa using ih
    have := ins (sortU l)
    have := sortU_len l
    show (insU x (sortU l)).length ≤ l.length + 1
    omega
def TxO (w : World) (a : Addr) (ss : List Str) : HO := .ext fun h => SimS.Tx w h a (fun y => y ∈ ss) ss.length
def rSetTx (K : PySem.W.Frag) (w : World) : List V → Hp → VK → Prop := fun xs H Q => ∃ (l : Addr) (ss : List Str), xs = [.ref l] ∧ SqL K H l (ss.map V.str) ∧ ss.length < 40 ∧ ∀ p, H p = none → Q (.ref p) (upd H p (TxO w p ss))
def rSortTx (w : World) : List V → Hp → VK → Prop := fun xs H Q => ∃ (a : Addr) (ss : List Str), xs = [.ref a] ∧ H a = some (TxO w a ss) ∧ ss.length < 40 ∧ ∀ p, H p = none → Q (.ref p) (upd H p (.lst ((sortU ss).map V.str)))
theorem cr_setTx {X : Cx} (hc : X.calm = true) : CallR X (.type "set") (rSetTx X.K X.w) := by
  intro pins s σ H xs us Q I r h
  obtain ⟨l, ss, rfl, hs, few, q⟩ := h
  obtain ⟨its, rv, hl, _⟩ := I.list hs
  rw [Vals.ref1 r]
  have small : ss.length + 1 < scanBound := by have : (41 : Nat) < scanBound := by decide
                                               omega
  refine SimS.call_set_tx (I.ok.hd hc) hl.isList rv.strs small fun h' tk R k => ?_
  have hn : H s.heap.objs.size = none := I.hok.fresh (Nat.le_refl _)
  refine ⟨.ref s.heap.objs.size, upd H s.heap.objs.size (TxO X.w s.heap.objs.size ss), I.laid k (Nat.le_refl _) ?_, rfl, q _ hn⟩
  obtain ⟨o, es, ep, t, ⟨ho, _⟩, _⟩ := id R
  exact ⟨R, ⟨o, ho⟩, fun h1 h2 z z2 => z.stay z2⟩
theorem cr_sortTx {X : Cx} (hc : X.calm = true) : CallR X (.builtin "sorted") (rSortTx X.w) := by
  intro pins s σ H xs us Q I r h
  obtain ⟨a, ss, rfl, ha, few, q⟩ := h
  have R : SimS.Tx X.w s.heap a (fun y => y ∈ ss) ss.length := (I.hok a _ ha).1
  rw [Vals.ref1 r]
  have small : ss.length < scanBound := by have : (41 : Nat) < scanBound := by decide
                                           omega
  refine SimS.sorted_tx R small (I.ok.hd hc) fun s' p out c ys k g o hp hg hy nd m so => ?_
  obtain rfl := sorted_is nd m so
  have hlen : ((sortU ss).map V.str).length ≤ sizeLine := by
    rw [List.length_map, sizeLine_eq]
    have := sortU_len ss
    omega
  have hn : H p = none := I.hok.fresh hp
  have J : Inv X pins σ (upd H p (.lst ((sortU ss).map V.str))) { s with heap := s'.heap, gens := s'.gens, drawn := s'.drawn, toks := s'.toks } :=
    I.call (ch := []) (Un.laid k hp hn) (I.hok.laid k hp ⟨hlen, out.toList, c, vals_of_strs hy, hg⟩) (by rw [g]; exact I.bare) (fun _ z => nomatch z)
  have e : s' = { s with heap := s'.heap, gens := s'.gens, drawn := s'.drawn, toks := s'.toks } := by
    cases s'
    cases s
    cases o
    rfl
  rw [e]
  exact ⟨.ref p, _, J, rfl, q p hn⟩
theorem x_sortset {X : Cx} {T : String → Value} {E : XK} {e : Expr} {m : M} {p p2 q pos : Pos} (hc : X.calm = true) (hg : Gl X "sorted") (hm : X.mg "sorted" = none) (hg2 : Gl X "set") (hm2 : X.mg "set" = none) (ha : EX X T E e m)
    (n1 : starEach (e :: []) X.env = (false, eval e X.env) :: starEach [] X.env := by rfl) (n2 : starEach ((.Call (.Name "set" p2) [e] [] q) :: []) X.env = (false, eval (.Call (.Name "set" p2) [e] [] q) X.env) :: starEach [] X.env := by rfl) :
    EX X T E (.Call (.Name "sorted" p) [.Call (.Name "set" p2) [e] [] q] [] pos) (mUn sSortSet m) := by
  have inner : PE X (.Call (.Name "set" p2) [e] [] q) (tCB (rSetTx X.K X.w) (tCons (TV T X.K E m) tNil)) := pe_callTy (cr_setTx hc) hg2 hm2 (by decide +kernel) (pa_cons ha pa_nil n1) (he := n1)
  refine pe_imp (pe_callB (cr_sortTx hc) hg hm (by decide +kernel) (pa_cons inner pa_nil n2) (he := n2)) fun σ H Q ⟨g, st, env, s, en, h⟩ => ?_
  refine tv_of s en h fun g1 H1 st1 x v e1 s1 en1 r1 h1 => ?_
  simp only [sSortSet] at h1
  split at h1
  · rename_i ss es
    split at h1
    · rename_i few
      obtain ⟨ys, e2, e3⟩ := Option.bind_eq_some_iff.mp es
      obtain ⟨a, vs, rfl, hl, l⟩ := asL_ok s1 r1 e2
      cases asStrs_ok e3
      cases l.strs
      refine ⟨a, ss, rfl, hl, of_decide_eq_true few, fun p hp => ?_⟩
      refine ⟨p, ss, rfl, upd_same, of_decide_eq_true few, ?_⟩
      exact giveF (st_new s1 hp) (RVL.ofStrs _) (okR.ext h1 (ext_new s1 hp))
    · exact h1.elim
  · exact h1.elim
/-! ### str(x) of data -/
mutual
def toDD : PV → Option PyData
  | .non => some .none
  | .bl b => some (.bool b)
  | .int i => some (.int i)
  | .str x => some (.str x)
  | .tup xs => (toDDs xs).map .tuple
  | .lst xs => (toDDs xs).map .list
  | .rol xs => (toDDs xs).map .list
  | .dct kvs => (toDDk kvs).map .dict
  | .ref _ => none
  | .raw _ => none
  | .wtp _ => none
  | .err _ => none
def toDDs : List PV → Option (List PyData)
  | [] => some []
  | x :: xs => match toDD x, toDDs xs with
    | some d, some ds => some (d :: ds)
    | _, _ => none
def toDDk : List (Key × PV) → Option (List (PyData × PyData))
  | [] => some []
  | (k, x) :: xs => match toDD x, toDDk xs with
    | some d, some ds => some ((match k with | .inl i => .int i | .inr s => .str s, d) :: ds)
    | _, _ => none
end
/-- .. a list of the store at the top -/
def unref (st : Sto) (x : PV) : PV := match x with
  | .ref k => match st[k]? with
    | some (.lst xs) => .lst xs
    | _ => .ref k
  | x => x
theorem unref_ok {K : PySem.W.Frag} {g : G} {H : Hp} {st : Sto} {x : PV} {v : V} (so : StOk K g H st) (r : RV K g H x v) : ∃ g', RV K g' H (unref st x) v := by
  unfold unref
  split
  · rename_i k
    split
    · rename_i xs q
      obtain ⟨rfl, vs, hH, l⟩ := ref_of so q r
      have x : ExtW g H { g with F := fun _ => True } H := ⟨Nat.le_refl _, fun _ _ => rfl, fun _ _ => ⟨trivial, rfl⟩, fun _ _ _ h => h⟩
      exact ⟨_, .lst trivial hH (l.monoW x)⟩
    · exact ⟨g, r⟩
  · exact ⟨g, r⟩
def sStr : SeN := fun xs st => match xs with
  | [.str z] => .ok (.str z) st
  | [x] => match toDD (unref st x) with
    | some d => if d.showable && decide (d.depth ≤ 50) && decide (d.shown.length ≤ 16777216) then .ok (.str d.shown) st else .bad
    | none => .bad
  | _ => .bad
section
variable {X : Cx} {pins : List (Addr × Obj)} {σ : L2.St} {H : Hp} {s : Shared} {g : G}
theorem keys_read {h : Heap} {P : Program} {w : World} : ∀ {es : List DictEntry} {kvs : List (Key × Value)}, Pairs (mixKind P w) es kvs → ReadsAll h (es.map (·.key)) (kvs.map fun p => match p.1 with | .inl i => .int i | .inr s => .str s) []
  | _, _, .nil => .nil
  | _, _, .cons (e := e) (kv := kv) h1 h2 l => by
    have r : Reads h e.key (match kv.1 with | .inl i => .int i | .inr s => .str s) [] := by
      have := keyIs_shape (k := kv.1) (v := e.key) h1
      rcases this with ⟨i, t, q1, q2⟩ | ⟨x, t, q1, q2⟩
      · rw [q1, q2]; exact .int i t
      · rw [q1, q2]; exact .str x t
    exact ReadsAll.cons r (keys_read l)
theorem vals_same {P : Program} {w : World} : ∀ {es : List DictEntry} {kvs : List (Key × Value)}, Pairs (mixKind P w) es kvs → es.map (·.val) = kvs.map (·.2)
  | _, _, .nil => rfl
  | _, _, .cons h1 h2 l => by rw [List.map_cons, List.map_cons, h2, vals_same l]
theorem toDDk_keys : ∀ {kvs : List (Key × PV)} {ds : List (PyData × PyData)}, toDDk kvs = some ds → ds.map (·.1) = kvs.map (fun p => match p.1 with | .inl i => .int i | .inr s => .str s) ∧ toDDs (kvs.map (·.2)) = some (ds.map (·.2))
  | [], _, e => by cases e; exact ⟨rfl, rfl⟩
  | (k, x) :: xs, _, e => by
    simp only [toDDk] at e
    split at e
    · rename_i d ds e1 e2
      cases e
      obtain ⟨q1, q2⟩ := toDDk_keys e2
      refine ⟨by simp [q1], ?_⟩
      simp only [List.map_cons, toDDs, e1, q2]
    · cases e
theorem rvk_vals : ∀ {kvs : List (Key × PV)} {ws : List (Key × V)}, RVK X.K g H kvs ws → RVL X.K g H (kvs.map (·.2)) (ws.map (·.2)) ∧ kvs.map (·.1) = ws.map (·.1)
  | _, _, .nil => ⟨.nil, rfl⟩
  | _, _, .cons r l => ⟨.cons r (rvk_vals l).1, by rw [List.map_cons, List.map_cons, (rvk_vals l).2]⟩
theorem kv_vals : ∀ {ws : List (Key × V)} {vs : List (Key × Value)}, KV ws vs → Vals (ws.map (·.2)) (vs.map (·.2)) ∧ ws.map (·.1) = vs.map (·.1)
  | _, _, .nil => ⟨.nil, rfl⟩
  | _, _, .cons r l => ⟨.cons r.2 (kv_vals l).1, by rw [List.map_cons, List.map_cons, (kv_vals l).2, r.1]⟩

section
variable {P : Program} {w : World} {h : Heap}
/-- one node of data, with the texts of its parts; only for a dict does its place matter -/
inductive Nd (h : Heap) : Value → PyData → List Addr → Prop
  | non : Nd h .none .none []
  | bl (b : Bool) : Nd h (.bool b) (.bool b) []
  | int (i : Int) (t : Nat) : Nd h (.int i t) (.int i) []
  | str (x : Str) (t : Nat) : Nd h (.str x t) (.str x) []
  | lst {a : Addr} {o : Obj} {vs : Array Value} {n : Nat} {ds : List PyData} {bs : List Addr} (h1 : h.get? a = some o) (h2 : o.cls = .type "list") (h3 : o.data = .seq vs n) (nm : a ∉ bs) (l : ∀ P w, ReprAllK P w bs h (PyData.depthAll ds) vs.toList (PyData.shownAll ds)) : Nd h (.ref a) (.list ds) (a :: bs)
  | tup {a : Addr} {o : Obj} {vs : Array Value} {n : Nat} {ds : List PyData} {bs : List Addr} (h1 : h.get? a = some o) (h2 : o.cls = .type "tuple") (h3 : o.data = .seq vs n) (nm : a ∉ bs) (l : ∀ P w, ReprAllK P w bs h (PyData.depthAll ds) vs.toList (PyData.shownAll ds)) : Nd h (.ref a) (.tuple ds) (a :: bs)
  | dct {a : Addr} {o : Obj} {es : Array DictEntry} {n : Nat} {kvs : List (PyData × PyData)} {bs : List Addr} (h1 : h.get? a = some o) (h2 : o.cls = .type "dict") (h3 : o.data = .dict es n) (ns : (a == sysModules) = false) (nm : a ∉ bs)
      (l : ∀ P w, ReprEntriesK P w bs h (PyData.depthKv kvs) es.toList (PyData.shownKv kvs)) : Nd h (.ref a) (.dict kvs) (a :: bs)
theorem Nd.rp {u : Value} {d : PyData} {bs : List Addr} (q : Nd h u d bs) (sh : d.showable = true) (hz : d.shown.length ≤ sizeLine) : ReprK P w bs h d.depth u d.shown := by
  cases q with
  | non => simp only [PyData.shown]; exact .of_is ReprIs.none _ _ _
  | bl b => simp only [PyData.shown]; exact .of_is (ReprIs.bool b) _ _ _
  | int i t => simp only [PyData.shown]; exact .of_is (ReprIs.int t (by simpa [PyData.showable] using sh)) _ _ _
  | str x t => simp only [PyData.shown]; exact .of_is (ReprIs.str x t (by simpa only [PyData.shown] using hz)) _ _ _
  | lst h1 h2 h3 nm l =>
    rename_i a o vs n ds bs
    simp only [PyData.depth, PyData.shown]
    obtain ⟨us⟩ := vs
    cases us with
    | nil =>
      cases ds with
      | nil =>
        simp only [PyData.shownAll, listText_nil]
        exact .listEmpty h1 h2 h3
      | cons d ds => have l := l P w; simp only [PyData.shownAll] at l; cases l
    | cons u us => exact .list h1 h2 h3 nm (by have := (l P w).length_eq; simpa using this) fun i y e => (l P w).item i y (by simpa using e)
  | tup h1 h2 h3 nm l =>
    simp only [PyData.depth, PyData.shown]
    exact .tuple h1 h2 h3 nm (l P w)
  | dct h1 h2 h3 ns nm l =>
    simp only [PyData.depth, PyData.shown]
    exact .dict h1 h2 h3 ns nm (l P w)
theorem Nd.by {a : Addr} {d : PyData} {bs : List Addr} (q : Nd h (.ref a) d bs) (hz : d.shown.length ≤ sizeLine) : ∃ T idr, ShowsBy P w h a d T idr := by
  cases q with
  | lst h1 h2 h3 nm l =>
    rename_i o vs n ds bs
    refine ⟨_, _, ⟨F.slot_list_repr.toG, F.slot_list_str, F.slot_list_format, fun s k => ⟨o, k _ _ h1, h2⟩, fun A E s Q hg hu k hQ => ?_⟩⟩
    simp only [PyData.depth] at hu
    simp only [PyData.shown] at hQ hz
    obtain ⟨us⟩ := vs
    cases us with
    | nil =>
      cases ds with
      | nil =>
        simp only [PyData.shownAll, listText_nil] at hQ
        exact call_list_repr_empty ⟨o, k _ _ h1, h2⟩ (k _ _ h1) h3 (hQ s.heap _ _ fun _ _ e => e)
      | cons d ds => have l := l P w; simp only [PyData.shownAll] at l; cases l
    | cons u us => exact call_list_reprK h1 h2 h3 nm (by have := (l P w).length_eq; simpa using this) (fun i y e => (l P w).item i y (by simpa using e)) hg (fun b _ => Clear.nil b) hu k hQ hz
  | tup h1 h2 h3 nm l =>
    rename_i o vs n ds bs
    refine ⟨_, _, ⟨F.slot_tuple_repr, F.slot_tuple_str, F.slot_tuple_format, fun s k => ⟨o, k _ _ h1, h2⟩, fun A E s Q hg hu k hQ => ?_⟩⟩
    simp only [PyData.depth] at hu
    simp only [PyData.shown] at hQ hz
    exact call_tuple_reprK h1 h2 h3 nm (l P w) hg (fun b _ => Clear.nil b) hu k hQ hz
  | dct h1 h2 h3 ns nm l =>
    rename_i o es n kvs bs
    refine ⟨_, _, ⟨F.slot_dict_repr, F.slot_dict_str, F.slot_dict_format, fun s k => ⟨o, k _ _ h1, h2⟩, fun A E s Q hg hu k hQ => ?_⟩⟩
    simp only [PyData.depth] at hu
    simp only [PyData.shown] at hQ hz
    exact call_dict_reprK h1 h2 h3 ns nm (l P w) hg (fun b _ => Clear.nil b) hu k hQ hz
theorem strNd {A : Around} {E : Value → Shared → Prop} {s : Shared} {Q : Value → Shared → Prop} {u : Value} {d : PyData} {bs : List Addr} (q : Nd s.heap u d bs) (sh : d.showable = true) (hg : Gd A) (hu : A.units + 64 < cLine) (dp : d.depth ≤ 50) (hz : d.shown.length ≤ sizeLine) (ne : ∀ z, d ≠ .str z)
    (hQ : ∀ h' u tk, (∀ b o, s.heap.get? b = some o → h'.get? b = some o) → Q (.str d.shown u) { s with heap := h', toks := tk }) : wpAny (model P w) A (call (.type "str") [u]) Q E s := by
  have go : ∀ a, Nd s.heap (.ref a) d bs → wpAny (model P w) A (call (.type "str") [.ref a]) Q E s := by
    intro a q
    refine callType_new F.called_str (by decide) (F.typeCall_str_1 _) (F.newCall_str_1 _) (fun obj => F.args_object_init_2 obj _) F.entry_str_new
      (meets_str_new (S := fun A2 R s2 => (A2 = A.in1 ∧ s2 = s) ∧ ∀ h' u tk, (∀ b o, s.heap.get? b = some o → h'.get? b = some o) → R (.ok (.ret (.str d.shown u))) { s with heap := h', toks := tk })
        fun P2 w2 A2 R s2 hh => ?_) ⟨⟨rfl, rfl⟩, fun h' u tk k => ⟨typeIs_str _ _ _, hQ h' u tk k⟩⟩
    obtain ⟨⟨rfl, rfl⟩, hR⟩ := hh
    obtain ⟨T, idr, S⟩ := q.by (P := P2) (w := w2) hz
    refine wpAny_strOf_slot rfl ?_ (S.typeIs s2 fun _ _ e => e) S.slotStr S.slotRepr (S.call _ _ s2 _ hg ?_ (fun _ _ e => e) fun h' u tk k => ⟨_, _, rfl, hR h' u tk k⟩)
    · show A.units + 1 + 1 + 1 < cLine
      omega
    · show A.units + 1 + 1 + 1 + d.depth < cLine
      omega
  cases q with
  | non => exact PySem.P.str_of_none (hQ s.heap _ _ fun _ _ e => e)
  | bl b => exact PySem.P.str_of_bool (hQ s.heap _ _ fun _ _ e => e)
  | int i t => exact PySem.P.str_of_int (by simpa [PyData.showable] using sh) (hQ s.heap _ _ fun _ _ e => e)
  | str x t => exact absurd rfl (ne x)
  | lst h1 h2 h3 nm l => exact go _ (.lst h1 h2 h3 nm l)
  | tup h1 h2 h3 nm l => exact go _ (.tup h1 h2 h3 nm l)
  | dct h1 h2 h3 ns nm l => exact go _ (.dct h1 h2 h3 ns nm l)
end
/-- a value that reads as data, with its node -/
def RdN (h : Heap) (u : Value) (d : PyData) : Prop := ∃ as bs, Reads h u d as ∧ ReadAtMost h d.depth bs ∧ Nd h u d bs
def RdL (h : Heap) (us : List Value) (ds : List PyData) : Prop := ∃ as bs, ReadsAll h us ds as ∧ ReadAtMost h (PyData.depthAll ds) bs ∧ ∀ P w, ReprAllK P w bs h (PyData.depthAll ds) us (PyData.shownAll ds)
theorem RdL.nil {h : Heap} : RdL h [] [] := ⟨[], [], .nil, (fun _ m => nomatch m), fun _ _ => by simp only [PyData.shownAll]; exact .nil⟩
theorem RdL.cons {h : Heap} {u : Value} {us : List Value} {d : PyData} {ds : List PyData} (q : RdN h u d) (l : RdL h us ds) (sh : d.showable = true) (hz : d.shown.length ≤ sizeLine) : RdL h (u :: us) (d :: ds) := by
  obtain ⟨as, bs, q1, q2, q3⟩ := q
  obtain ⟨as2, bs2, l1, l2, l3⟩ := l
  refine ⟨as ++ as2, bs ++ bs2, .cons q1 l1, (q2.mono (by simp only [PyData.depthAll]; omega)).append (l2.mono (by simp only [PyData.depthAll]; omega)), fun P w => ?_⟩
  simp only [PyData.depthAll, PyData.shownAll]
  exact .cons (((q3.rp sh hz).more fun b m => List.mem_append_left _ m).level_le (Nat.le_max_left _ _)) ((l3 P w).more_le (fun b m => List.mem_append_right _ m) (Nat.le_max_right _ _))
theorem RdN.lst {h : Heap} {a : Addr} {o : Obj} {vs : Array Value} {n : Nat} {ds : List PyData} (h1 : h.get? a = some o) (h2 : o.cls = .type "list") (h3 : o.data = .seq vs n) (l : RdL h vs.toList ds) : RdN h (.ref a) (.list ds) := by
  obtain ⟨as, bs, l1, l2, l3⟩ := l
  have r : Reads h (.ref a) (.list ds) _ := .list h1 h2 h3 l1
  exact ⟨_, _, r, .cons r (by simp only [PyData.depth]; omega) l2, .lst h1 h2 h3 (not_mem_of_deeper r (by simp only [PyData.depth]; omega) l2) l3⟩
theorem RdN.tup {h : Heap} {a : Addr} {o : Obj} {vs : Array Value} {n : Nat} {ds : List PyData} (h1 : h.get? a = some o) (h2 : o.cls = .type "tuple") (h3 : o.data = .seq vs n) (l : RdL h vs.toList ds) : RdN h (.ref a) (.tuple ds) := by
  obtain ⟨as, bs, l1, l2, l3⟩ := l
  have r : Reads h (.ref a) (.tuple ds) _ := .tuple h1 h2 h3 l1
  exact ⟨_, _, r, .cons r (by simp only [PyData.depth]; omega) l2, .tup h1 h2 h3 (not_mem_of_deeper r (by simp only [PyData.depth]; omega) l2) l3⟩
theorem RdN.dct {h : Heap} {a : Addr} {o : Obj} {es : Array DictEntry} {n : Nat} {kvs : List (PyData × PyData)} (h1 : h.get? a = some o) (h2 : o.cls = .type "dict") (h3 : o.data = .dict es n) (ns : (a == sysModules) = false)
    (k : RdL h (es.toList.map (·.key)) (kvs.map (·.1))) (l : RdL h (es.toList.map (·.val)) (kvs.map (·.2))) : RdN h (.ref a) (.dict kvs) := by
  obtain ⟨as, bs, l1, l2, l3⟩ := k
  obtain ⟨as2, bs2, m1, m2, m3⟩ := l
  have r : Reads h (.ref a) (.dict kvs) _ := .dict h1 h2 h3 l1 m1
  have hb := (l2.mono (PyData.depthAll_keys_le kvs)).append (m2.mono (PyData.depthAll_vals_le kvs))
  refine ⟨_, _, r, .cons r (by simp only [PyData.depth]; omega) hb, .dct h1 h2 h3 ns (not_mem_of_deeper r (by simp only [PyData.depth]; omega) hb) fun P w => ?_⟩
  rw [PyData.shownKv_eq]
  exact .of_two _ _ _ ((l3 P w).more_le (fun b m => List.mem_append_left _ m) (PyData.depthAll_keys_le kvs)) ((m3 P w).more_le (fun b m => List.mem_append_right _ m) (PyData.depthAll_vals_le kvs))
/-- a key of a dict, as data -/
def kD : Key → PyData
  | .inl i => .int i
  | .inr s => .str s
def kDs : List (Key × PV) → List PyData
  | [] => []
  | (k, _) :: l => kD k :: kDs l
theorem toDDk_both : ∀ {kvs : List (Key × PV)} {ds : List (PyData × PyData)}, toDDk kvs = some ds → ds.map (·.1) = kvs.map (fun p => kD p.1) ∧ toDDs (kvs.map (·.2)) = some (ds.map (·.2))
  | [], _, e => by cases e; exact ⟨rfl, rfl⟩
  | (k, x) :: xs, _, e => by
    simp only [toDDk] at e
    split at e
    · rename_i d ds e1 e2
      cases e
      obtain ⟨q1, q2⟩ := toDDk_both e2
      refine ⟨by simp only [List.map_cons, q1]; cases k <;> rfl, ?_⟩
      simp only [List.map_cons, toDDs, e1, q2]
    · cases e
theorem key_rd {h : Heap} {P : Program} {w : World} : ∀ {es : List DictEntry} {kvs : List (Key × Value)}, Pairs (mixKind P w) es kvs → PyData.showableAll (kvs.map fun p => kD p.1) = true → (∀ t ∈ PyData.shownAll (kvs.map fun p => kD p.1), t.length ≤ sizeLine) → RdL h (es.map (·.key)) (kvs.map fun p => kD p.1)
  | _, _, .nil, _, _ => .nil
  | _, _, .cons (e := e) (kv := kv) h1 h2 l, hs, hz => by
    rw [List.map_cons] at hs hz
    simp only [PyData.showableAll, Bool.and_eq_true] at hs
    simp only [PyData.shownAll] at hz
    have q : RdN h e.key (kD kv.1) := by
      rcases keyIs_shape (k := kv.1) (v := e.key) h1 with ⟨i, t, q1, q2⟩ | ⟨x, t, q1, q2⟩
      · rw [q1, q2]; exact ⟨[], [], .int i t, (fun _ m => nomatch m), .int i t⟩
      · rw [q1, q2]; exact ⟨[], [], .str x t, (fun _ m => nomatch m), .str x t⟩
    exact RdL.cons q (key_rd l hs.2 fun t m => hz t (List.mem_cons_of_mem _ m)) hs.1 (hz _ (List.mem_cons_self ..))
mutual
theorem rdV (I : Inv X pins σ H s) : ∀ {x : PV} {v : V} {u : Value} {d : PyData}, RV X.K g H x v → RelV v u → toDD x = some d → d.showable = true → d.shown.length ≤ sizeLine → RdN s.heap u d
  | .non, _, _, _, h, r, e, _, _ => by cases h; cases r; cases e; exact ⟨[], [], .none, (fun _ m => nomatch m), .non⟩
  | .bl b, _, _, _, h, r, e, _, _ => by cases h; cases r; cases e; exact ⟨[], [], .bool b, (fun _ m => nomatch m), .bl b⟩
  | .int i, _, _, _, h, r, e, _, _ => by cases h; obtain ⟨t, rfl⟩ := r; cases e; exact ⟨[], [], .int i t, (fun _ m => nomatch m), .int i t⟩
  | .str x, _, _, _, h, r, e, _, _ => by cases h; obtain ⟨t, rfl⟩ := r; cases e; exact ⟨[], [], .str x t, (fun _ m => nomatch m), .str x t⟩
  | .tup xs, _, _, _, h, r, e, hs, hz => by
    cases h with
    | tup h l =>
      cases r
      simp only [toDD, Option.map_eq_some_iff] at e
      obtain ⟨ds, e1, rfl⟩ := e
      obtain ⟨its, rv, ⟨o, ho, hc, n, hd⟩, _⟩ := I.tuple h.t
      simp only [PyData.shown] at hz
      exact .tup ho hc hd (by simpa using rdL I l rv e1 (by simpa [PyData.showable] using hs) fun t m => Nat.le_trans (tupleText_mem_le m) hz)
  | .lst xs, _, _, _, h, r, e, hs, hz => by
    cases h with
    | lst f h l =>
      cases r
      simp only [toDD, Option.map_eq_some_iff] at e
      obtain ⟨ds, e1, rfl⟩ := e
      obtain ⟨its, rv, ⟨o, n, ho, hc, _, hd⟩, _⟩ := I.list (SqL.of h)
      simp only [PyData.shown] at hz
      exact .lst ho hc hd (by simpa using rdL I l rv e1 (by simpa [PyData.showable] using hs) fun t m => Nat.le_trans (listText_mem_le m) hz)
  | .rol xs, _, _, _, h, r, e, hs, hz => by
    cases h with
    | rol f h l =>
      cases r
      simp only [toDD, Option.map_eq_some_iff] at e
      obtain ⟨ds, e1, rfl⟩ := e
      obtain ⟨its, rv, ⟨o, n, ho, hc, _, hd⟩, _⟩ := I.list (show SqL X.K H _ _ from .inl (.inr ⟨_, h⟩))
      simp only [PyData.shown] at hz
      exact .lst ho hc hd (by simpa using rdL I l rv e1 (by simpa [PyData.showable] using hs) fun t m => Nat.le_trans (listText_mem_le m) hz)
    | rolK h h2 l =>
      cases r
      simp only [toDD, Option.map_eq_some_iff] at e
      obtain ⟨ds, e1, rfl⟩ := e
      obtain ⟨its, rv, ⟨o, n, ho, hc, _, hd⟩, _⟩ := I.list (h H)
      simp only [PyData.shown] at hz
      exact .lst ho hc hd (by simpa using rdL I l rv e1 (by simpa [PyData.showable] using hs) fun t m => Nat.le_trans (listText_mem_le m) hz)
  | .dct kvs, _, _, _, h, r, e, hs, hz => by
    cases h with
    | dct f h l =>
      cases r
      simp only [toDD, Option.map_eq_some_iff] at e
      obtain ⟨ds, e1, rfl⟩ := e
      obtain ⟨_, ns, vs, kv, o, es, ep, ho, hx, hd, _, pr, _⟩ := dk_of I.hok h
      obtain ⟨q1, q2⟩ := toDDk_both e1
      obtain ⟨l1, l2⟩ := rvk_vals l
      obtain ⟨v1, v2⟩ := kv_vals kv
      obtain ⟨s1, s2⟩ := PyData.showableKv_split ds (by simpa [PyData.showable] using hs)
      simp only [PyData.shown] at hz
      have z1 : ∀ t ∈ PyData.shownAll (ds.map (·.1)), t.length ≤ sizeLine := fun t m => by
        obtain ⟨p, hp, le⟩ := PyData.shownKv_key_le ds t m
        exact Nat.le_trans le (Nat.le_trans (dictText_mem_le hp) hz)
      have z2 : ∀ t ∈ PyData.shownAll (ds.map (·.2)), t.length ≤ sizeLine := fun t m => by
        obtain ⟨p, hp, le⟩ := PyData.shownKv_val_le ds t m
        exact Nat.le_trans le (Nat.le_trans (dictText_mem_le hp) hz)
      have ek : (vs.map fun p => kD p.1) = ds.map (·.1) := by
        rw [q1]
        have e3 : kvs.map (·.1) = vs.map (·.1) := l2.trans v2
        have := congrArg (List.map kD) e3
        rw [List.map_map, List.map_map] at this
        exact this.symm
      rw [← ek] at s1 z1
      have rk := key_rd (h := s.heap) pr s1 z1
      rw [ek] at rk
      exact .dct ho hx.1 hd ns rk (by rw [vals_same pr]; exact rdK I l v1 e1 s2 z2)
theorem rdL (I : Inv X pins σ H s) : ∀ {xs : List PV} {vs : List V} {us : List Value} {ds : List PyData}, RVL X.K g H xs vs → Vals vs us → toDDs xs = some ds → PyData.showableAll ds = true → (∀ t ∈ PyData.shownAll ds, t.length ≤ sizeLine) → RdL s.heap us ds
  | [], _, _, _, h, r, e, _, _ => by cases h; cases r; cases e; exact .nil
  | x :: xs, _, _, _, h, r, e, hs, hz => by
    cases h with
    | cons h l =>
      cases r with
      | cons r rs =>
        simp only [toDDs] at e
        split at e
        · rename_i d ds e1 e2
          cases e
          simp only [PyData.showableAll, Bool.and_eq_true] at hs
          simp only [PyData.shownAll] at hz
          have z := hz _ (List.mem_cons_self ..)
          exact .cons (rdV I h r e1 hs.1 z) (rdL I l rs e2 hs.2 fun t m => hz t (List.mem_cons_of_mem _ m)) hs.1 z
        · cases e
theorem rdK (I : Inv X pins σ H s) : ∀ {kvs : List (Key × PV)} {ws : List (Key × V)} {us : List Value} {ds : List (PyData × PyData)}, RVK X.K g H kvs ws → Vals (ws.map (·.2)) us → toDDk kvs = some ds → PyData.showableAll (ds.map (·.2)) = true → (∀ t ∈ PyData.shownAll (ds.map (·.2)), t.length ≤ sizeLine) → RdL s.heap us (ds.map (·.2))
  | [], _, _, _, h, r, e, _, _ => by cases h; cases r; cases e; exact .nil
  | (k, x) :: xs, _, _, _, h, r, e, hs, hz => by
    cases h with
    | cons h l =>
      cases r with
      | cons r rs =>
        simp only [toDDk] at e
        split at e
        · rename_i d ds e1 e2
          cases e
          simp only [List.map_cons, PyData.showableAll, Bool.and_eq_true] at hs
          simp only [List.map_cons, PyData.shownAll] at hz
          have z := hz _ (List.mem_cons_self ..)
          exact .cons (rdV I h r e1 hs.1 z) (rdK I l rs e2 hs.2 fun t m => hz t (List.mem_cons_of_mem _ m)) hs.1 z
        · cases e
end
end
def rStr (K : PySem.W.Frag) : List V → Hp → VK → Prop := fun xs H Q => (∃ z, xs = [.str z] ∧ Q (.str z) H) ∨ ∃ g x v d, xs = [v] ∧ RV K g H x v ∧ (∀ z, x ≠ .str z) ∧ toDD x = some d ∧ d.showable = true ∧ d.depth ≤ 50 ∧ d.shown.length ≤ sizeLine ∧ Q (.str d.shown) H
theorem x_strOf {X : Cx} {T : String → Value} {E : XK} {k : Nat} {e : Expr} {m : M} {p pos : Pos} (gd : Gd X.A) (hr : Room k X.A) (hg : Gl X "str") (hm : X.mg "str" = none) (ha : EX X T E e m) (na : starEach (e :: []) X.env = (false, eval e X.env) :: starEach [] X.env := by rfl) :
    EX X T E (.Call (.Name "str" p) [e] [] pos) (mApp sStr (mCons m mNil)) := by
  have c : CallR X (.type "str") (rStr X.K) := by
    intro pins s σ H xs us Q I r h
    rcases h with ⟨z, rfl, q⟩ | ⟨g, x, v, d, rfl, rx, nx, ed, sh, dp, hz, q⟩
    · obtain ⟨u, rfl, ru⟩ := vals1 r
      obtain ⟨t, rfl⟩ := ru
      exact PySem.P.str_of_str ⟨.str z, H, I, ⟨_, rfl⟩, q⟩
    obtain ⟨u, rfl, ru⟩ := vals1 r
    have nd : ∀ z, d ≠ .str z := fun z e => by
      subst e
      cases x with
      | str y => exact nx y rfl
      | tup _ => simp [toDD] at ed
      | lst _ => simp [toDD] at ed
      | rol _ => simp [toDD] at ed
      | dct _ => simp [toDD] at ed
      | wtp _ => simp [toDD] at ed
      | _ => simp [toDD] at ed
    obtain ⟨as, bs, _, _, q3⟩ := rdV I rx ru ed sh hz
    exact strNd q3 sh gd (hu64 hr) dp hz nd fun h' u tk k => ⟨.str d.shown, H, I.kept k, ⟨_, rfl⟩, q⟩
  refine x_callTy c ?_ hg hm (by decide +kernel) (x_cons ha x_nil na) (he := na)
  intro g H st xs vs Q s l h
  unfold sStr at h
  split at h
  · obtain ⟨v, rfl, r⟩ := one_of l
    cases r
    exact .inl ⟨_, rfl, okR.fin h s (.str _)⟩
  · rename_i x hx
    split at h
    · rename_i d ed
      split at h
      · rename_i hf
        simp only [Bool.and_eq_true, decide_eq_true_eq] at hf
        obtain ⟨v, rfl, r⟩ := one_of l
        obtain ⟨g', r'⟩ := unref_ok s r
        have hx' : ∀ z, unref st x ≠ .str z := fun z e => by
          unfold unref at e
          split at e
          · split at e <;> cases e
          · exact hx z (by rw [e])
        exact .inr ⟨g', _, v, d, rfl, r', hx', ed, hf.1.1, hf.1.2, by rw [sizeLine_eq]; exact hf.2, okR.fin h s (.str _)⟩
      · exact h.elim
    · exact h.elim
  · exact h.elim
theorem x_dnew {X : Cx} {T : String → Value} {E : XK} {pos : Pos} : EX X T E (.Dict [] [] pos) (mC (.dct [])) :=
  pe_imp pe_dnewK fun σ H Q ⟨g, st, env, s, en, h⟩ p hp => okR.finE h (ext_frz s hp) (st_frz s hp) (.dct (.inr rfl) upd_same .nil)
/-- + of lists, for a name whose list is changed later -/
def sAddM : Se2 := fun x y st => match asM st x, asM st y with
  | some xs, some ys => if fitL (xs ++ ys) then .ok (.ref st.length) (st ++ [.lst (xs ++ ys)]) else .bad
  | _, _ => .bad
theorem s_addM {X : Cx} {T : String → Value} {E : XK} : S2 T X.K E (rAdd4 X.K) sAddM := by
  intro g H st x y v u Q s r1 r2 h
  unfold sAddM at h
  split at h
  · rename_i xs ys e1 e2
    obtain ⟨a, vs, rfl, h1, l1⟩ := asM_ok s r1 e1
    obtain ⟨b, ws, rfl, h2, l2⟩ := asM_ok s r2 e2
    split at h
    · rename_i hf
      have := fitL_ok hf
      rw [List.length_append, l1.length, l2.length] at this
      exact .inr (.inl ⟨a, b, vs, ws, rfl, rfl, h1, h2, this, giveM s (l1.append l2) h⟩)
    · exact h.elim
  · exact h.elim
end Sim
namespace Sim
open PySem PySem.Spec PyProof.Rows L2
variable [Tb] [Lm]
/-- a constant of the text -/
structure Co (P : Program) (w : World) (K : PySem.W.Frag) (mg : Str → Option Value) (base : Heap) (x : Str) (v : PV) : Prop where
  is : ∃ u y, mg x = some u ∧ RelV y u ∧ ∀ g H, RV K g H v y
theorem Co.ex {X : Cx} {T : String → Value} {E : XK} {x : Str} {v : PV} {pos : Pos} (c : Co X.prog X.w X.K X.mg X.base x v) (hg : Gl X x := by rfl) (hd : (x == ("__debug__" : Str)) = false := by decide) : EX X T E (.Name x pos) (mC v) := by
  obtain ⟨u, y, h1, h2, h3⟩ := c.is
  exact x_C (pe_glob hg h1 h2 hd) h3
end Sim
namespace Sim
open PySem PySem.Spec PyProof.Rows L2
variable [Tb] [Lm]
end Sim
namespace L2
open PySem PySem.Spec PyProof.Rows
theorem Fun.kb {K : PySem.W.Frag} {x qual : Str} {st : Stmt} {f : Addr} {fd : FuncData} {ps ks : List Str} {is : List Nat} (F : Fun K x qual st f fd)
    (h : ∀ (kV doc pm : Value) (an : Option Addr) (cdv ct : Value) (us : List Value), us.length = ks.length → bindArgs (PySem.W.fnOf x qual (defArgs st) (defBody st) (defScope st) .none kV doc pm an cdv ct) ⟨[], ks.zip us⟩ = pure (ps.zip (Sim.permL is us))) : Sim.KB K fd ps ks is := by
  obtain ⟨oc, od, kV, doc, pm, an, cdv, ct, osl, rfl, lk, hcd⟩ := F.ex
  intro s us _ hl
  exact .of_eq (h kV doc pm an cdv ct us hl)
end L2

set_option Elab.async false
set_option linter.all false
set_option maxRecDepth 100000
set_option maxHeartbeats 4000000
namespace Sim
open PySem PySem.Spec PyProof.Rows L2

/-! ### working with mirrors -/
mutual
theorem eqb_rfl : ∀ x : PV, PV.eqb x x = true
  | .non => rfl
  | .bl a => by simp [PV.eqb]
  | .int a => by simp [PV.eqb]
  | .str a => by simp [PV.eqb]
  | .tup xs => by simp only [PV.eqb]; exact eqbs_rfl xs
  | .lst xs => by simp only [PV.eqb]; exact eqbs_rfl xs
  | .rol xs => by simp only [PV.eqb]; exact eqbs_rfl xs
  | .wtp xs => by simp only [PV.eqb]; exact eqbs_rfl xs
  | .dct xs => by simp only [PV.eqb]; exact eqbk_rfl xs
  | .ref a => by simp [PV.eqb]
  | .raw a => by simp [PV.eqb]
  | .err a => by simp [PV.eqb]
theorem eqbs_rfl : ∀ xs : List PV, PV.eqbs xs xs = true
  | [] => rfl
  | x :: xs => by simp only [PV.eqbs, Bool.and_eq_true]; exact ⟨eqb_rfl x, eqbs_rfl xs⟩
theorem eqbk_rfl : ∀ xs : List (Key × PV), PV.eqbk xs xs = true
  | [] => rfl
  | (k, x) :: xs => by simp only [PV.eqbk, Bool.and_eq_true, decide_true, true_and]; exact ⟨eqb_rfl x, eqbk_rfl xs⟩
end
theorem moeq_rfl (x : MO) : MO.eqb x x = true := by
  cases x with
  | lst a => exact eqbs_rfl a
  | dct a => exact eqbk_rfl a
  | dead => rfl
theorem okOld_of (n : Nat) : ∀ {a b : Sto}, a.length ≤ b.length → (∀ (i : Nat) (x : MO), a[i]? = some x → b[i]? = some x ∨ lowM n x = true) → okOld n a b = true
  | [], _, _, _ => by unfold okOld; rfl
  | x :: a, [], hl, _ => absurd hl (by simp)
  | x :: a, y :: b, hl, h => by
    unfold okOld
    rw [Bool.and_eq_true]
    refine ⟨?_, okOld_of n (by simpa using hl) fun i z e => by simpa using h (i + 1) z (by simpa using e)⟩
    rcases h 0 x rfl with q | q
    · cases (show y = x by simpa using q)
      rw [moeq_rfl, Bool.true_or]
    · rw [q, Bool.or_true]
theorem gc_fit {st s : Sto} {x : PV} (hx : low st.length x = true) (hl : st.length ≤ s.length) (h : ∀ (i : Nat) (a : MO), i < st.length → s[i]? = some a → st[i]? = some a ∨ lowM st.length a = true) : gc st x s = .ok x (s.take st.length) := by
  unfold gc
  have e : gcV st.length s 4 x = some x := by
    unfold gcV
    rw [if_pos hx]
  rw [e]
  have o : okOld st.length (s.take st.length) st = true := okOld_of _ (by simp; omega) fun i a q => by
    rw [List.getElem?_take] at q
    split at q
    · rename_i hi
      exact h i a hi q
    · cases q
  simp only [decide_eq_true hl, o, Bool.and_self, if_true]
theorem gc_self {st : Sto} {x : PV} (hx : low st.length x = true) : gc st x st = .ok x st := by
  rw [gc_fit hx (Nat.le_refl _) fun i a _ e => .inl e, List.take_length]
theorem gc_app {st t : Sto} {x : PV} (hx : low st.length x = true) : gc st x (st ++ t) = .ok x st := by
  rw [gc_fit hx (by simp) fun i a hi e => .inl (by rwa [List.getElem?_append_left hi] at e), List.take_left]

/-! ### loops -/
theorem lcGo_map {t : Tgt} {c : MB} {m : M} {env0 : Lo} {st : Sto} {g : PV → PV} : ∀ {xs : List PV}, (∀ x ∈ xs, ∃ env1, t.run x env0 = some env1 ∧ c env1 st = .ok true st ∧ m env1 st = .ok (g x) st) → lcGo t c m env0 xs st = .ok (xs.map g) st
  | [], _ => rfl
  | x :: xs, h => by
    obtain ⟨env1, h1, h2, h3⟩ := h x (List.mem_cons_self ..)
    have ih := lcGo_map fun y m => h y (List.mem_cons_of_mem _ m)
    simp only [lcGo, h1, h2, h3, Res.only, Res.bind_ok, if_true, ih, List.map_cons]
/-- a loop that returns at the first one that fails -/
theorem forGo_all {body : MS} {env : Lo} {st : Sto} {i : Nat} {g : PV → Bool} {r : PV} (xs : List PV) (h : ∀ x ∈ xs, body (env.set i (some x)) st = if g x = true then .nx (env.set i (some x)) st else .rt r st) :
    ∃ e, (e = env ∨ ∃ y, e = env.set i y) ∧ forGo (.one i) body xs env st = if xs.all g = true then .nx e st else .rt r st := by
  have go : ∀ (xs : List PV) (e0 : Lo), (e0 = env ∨ ∃ y, e0 = env.set i y) → (∀ x ∈ xs, body (env.set i (some x)) st = if g x = true then .nx (env.set i (some x)) st else .rt r st) →
      ∃ e, (e = env ∨ ∃ y, e = env.set i y) ∧ forGo (.one i) body xs e0 st = if xs.all g = true then .nx e st else .rt r st := by
    intro xs
    induction xs with
    | nil => intro e0 h0 _; exact ⟨e0, h0, by simp [forGo]⟩
    | cons x xs ih =>
      intro e0 h0 h
      have es : e0.set i (some x) = env.set i (some x) := by
        rcases h0 with rfl | ⟨y, rfl⟩
        · rfl
        · rw [List.set_set]
      have hb := h x (List.mem_cons_self ..)
      obtain ⟨e, q1, q2⟩ := ih (env.set i (some x)) (.inr ⟨_, rfl⟩) fun y m => h y (List.mem_cons_of_mem _ m)
      refine ⟨e, q1, ?_⟩
      simp only [forGo, Tgt.run, es, hb, List.all_cons]
      by_cases hx : g x = true
      · simp only [hx, if_true, q2, Bool.true_and]
      · rw [if_neg hx]
        simp [hx]
  exact go xs env (.inl rfl) h
theorem gc_bl (st : Sto) (b : Bool) : gc st (.bl b) st = .ok (.bl b) st := gc_self (by unfold low; rfl)
theorem gc_int (st : Sto) (b : Int) : gc st (.int b) st = .ok (.int b) st := gc_self (by unfold low; rfl)
/-! ### the mirrors' steps, as equations -/
def onB {α : Type} : PV → (Bool → Res α) → Res α
  | .bl p, k => k p
  | _, _ => .bad
theorem onB_bl {α : Type} (p : Bool) (k : Bool → Res α) : onB (.bl p) k = k p := rfl
theorem mAnd_eq (a b : M) (env : Lo) (st : Sto) : mAnd a b env st = (a env st).bind fun x s1 => onB x fun p => if p = true then b env s1 else .ok (.bl false) s1 := by
  unfold mAnd
  congr 1; funext x s1
  cases x <;> first | rfl | (rename_i p; cases p <;> rfl)
theorem mOr_eq (a b : M) (env : Lo) (st : Sto) : mOr a b env st = (a env st).bind fun x s1 => onB x fun p => if p = true then .ok (.bl true) s1 else b env s1 := by
  unfold mOr
  congr 1; funext x s1
  cases x <;> first | rfl | (rename_i p; cases p <;> rfl)
theorem mNot_eq (a : M) (env : Lo) (st : Sto) : mNot a env st = (a env st).bind fun x s1 => onB x fun p => .ok (.bl (!p)) s1 := by
  unfold mNot
  congr 1; funext x s1
  cases x <;> rfl
theorem bVal_eq (a : M) (env : Lo) (st : Sto) : bVal a env st = (a env st).bind fun x s1 => onB x fun p => .ok p s1 := by
  unfold bVal
  congr 1; funext x s1
  cases x <;> rfl
theorem mChain_eq (f f' : Se2) (a b c : M) (env : Lo) (st : Sto) : mChain f f' a b c env st = (a env st).bind fun x s1 => (b env s1).bind fun y s2 => (f x y s2).bind fun z s3 => onB z fun p => if p = true then (c env s3).bind fun w s4 => f' y w s4 else .ok (.bl false) s3 := by
  unfold mChain
  congr 1; funext x s1
  congr 1; funext y s2
  congr 1; funext z s3
  cases z <;> first | rfl | (rename_i p; cases p <;> rfl)
theorem ite_ok {α : Type} (p : Prop) [Decidable p] (a b : α) (s : Sto) : (if p then Res.ok a s else Res.ok b s) = Res.ok (if p then a else b) s := by split <;> rfl
theorem ite_bl (p : Prop) [Decidable p] (a b : Bool) : (if p then PV.bl a else PV.bl b) = PV.bl (if p then a else b) := by split <;> rfl
theorem ite_and (p q : Bool) : (if p = true then q else false) = (p && q) := by cases p <;> rfl
theorem ite_or (p q : Bool) : (if p = true then true else q) = (p || q) := by cases p <;> rfl
def setE (i : Nat) (x : PV) (env : Lo) : Lo := env.set i (some x)
theorem sIter_tup (xs : List PV) (st : Sto) : sIter (.tup xs) st = .ok xs st := rfl
theorem sIter_lst (xs : List PV) (st : Sto) : sIter (.lst xs) st = .ok xs st := rfl
theorem cIf_ok {c : MB} {a b : MS} {env : Lo} {st s : Sto} {k : Bool} (h : c env st = .ok k s) : cIf c a b env st = if k = true then a env s else b env s := by
  simp only [cIf, h]
theorem len_ok_t {xs : List PV} (st : Sto) : sLen [.tup xs] st = .ok (.int xs.length) st := rfl
theorem len_ok_l {xs : List PV} (st : Sto) : sLen [.lst xs] st = .ok (.int xs.length) st := rfl
/-- no reference, no foreign value: its kind is known without the store -/
def flat : PV → Bool
  | .ref _ => false
  | .raw _ => false
  | .wtp _ => false
  | .err _ => false
  | _ => true
def is_int : PV → Bool
  | .int _ => true
  | .bl _ => true
  | _ => false
theorem isi_int {x : PV} (h : flat x = true) (st : Sto) : sIsi [x, .raw (.ty "int")] st = .ok (.bl (is_int x)) st := by cases x <;> first | (cases h; done) | rfl
def is_bool : PV → Bool
  | .bl _ => true
  | _ => false
theorem isi_bool {x : PV} (h : flat x = true) (st : Sto) : sIsi [x, .raw (.ty "bool")] st = .ok (.bl (is_bool x)) st := by cases x <;> first | (cases h; done) | rfl
def is_str : PV → Bool
  | .str _ => true
  | _ => false
theorem isi_str {x : PV} (h : flat x = true) (st : Sto) : sIsi [x, .raw (.ty "str")] st = .ok (.bl (is_str x)) st := by cases x <;> first | (cases h; done) | rfl
def is_tuple : PV → Bool
  | .tup _ => true
  | _ => false
theorem isi_tuple {x : PV} (h : flat x = true) (st : Sto) : sIsi [x, .raw (.ty "tuple")] st = .ok (.bl (is_tuple x)) st := by cases x <;> first | (cases h; done) | rfl
def is_list : PV → Bool
  | .lst _ => true
  | .rol _ => true
  | _ => false
theorem isi_list {x : PV} (h : flat x = true) (st : Sto) : sIsi [x, .raw (.ty "list")] st = .ok (.bl (is_list x)) st := by cases x <;> first | (cases h; done) | rfl
def is_dict : PV → Bool
  | .dct _ => true
  | _ => false
theorem isi_dict {x : PV} (h : flat x = true) (st : Sto) : sIsi [x, .raw (.ty "dict")] st = .ok (.bl (is_dict x)) st := by cases x <;> first | (cases h; done) | rfl
end Sim
local macro_rules | `(tactic| simp_arith! [$ls,*]) => `(tactic| simp -implicitDefEqProofs only [$ls,*, Sim.defM, Sim.cSeq, Sim.cSet, Sim.cRet, Sim.cIf, Sim.cNil, Sim.cExpr, Sim.Tgt.run, Sim.mVar, Sim.mC, Sim.mApp, Sim.mCons, Sim.mNil, Sim.mBin, Sim.mUn, Sim.mAnd_eq, Sim.mOr_eq, Sim.mNot_eq, Sim.mChain_eq, Sim.bVal_eq, Sim.bNot, Sim.bAnd, Sim.bOr, Sim.onB_bl, Sim.fnN, Sim.Res.bind_ok, Sim.Res.bind_exc, Sim.Res.bind_bad, Sim.ite_ok, Sim.ite_bl, Sim.ite_and, Sim.ite_or, List.map_cons, List.map_nil, List.length_cons, List.length_nil, List.replicate, List.cons_append, List.nil_append, List.append_nil, List.getElem?_cons_zero, List.getElem?_cons_succ, List.getElem?_nil, List.set_cons_zero, List.set_cons_succ, List.set_nil, Nat.add_zero, Nat.zero_add, Nat.reduceAdd, Nat.reduceSub, Nat.reduceEqDiff, if_true, if_false, Bool.false_eq_true, ↓reduceIte, Bool.not_true, Bool.not_false, Bool.not_not, Bool.true_and, Bool.false_and, Bool.and_true, Bool.and_false, Bool.true_or, Bool.false_or, Bool.or_true, Bool.or_false, Sim.gc_bl, Sim.gc_int, Sim.cFor, Sim.mIter, Sim.sIter_tup, Sim.sIter_lst, Sim.is_int, Sim.is_bool, Sim.is_str, Sim.is_tuple, Sim.is_list, Sim.is_dict, Sim.sLe, Sim.sLt, Sim.sGt, Sim.sGe, Sim.sOrd])

namespace Sim
open PySem PySem.Spec PyProof.Rows L2
mutual
/-- data of its own: no reference anywhere, lists and texts of a size that fits -/
def dt : PV → Bool
  | .ref _ => false
  | .raw _ => false
  | .wtp _ => false
  | .err _ => false
  | .str z => decide (z.length ≤ 16777216)
  | .tup xs => fitL xs && dts xs
  | .lst xs => fitL xs && dts xs
  | .rol xs => fitL xs && dts xs
  | _ => true
def dts : List PV → Bool
  | [] => true
  | x :: xs => dt x && dts xs
end
theorem dts_iff : ∀ {xs : List PV}, dts xs = true ↔ ∀ x ∈ xs, dt x = true
  | [] => by simp [dts]
  | x :: xs => by simp only [dts, Bool.and_eq_true, dts_iff (xs := xs), List.forall_mem_cons]
theorem dt_flat {x : PV} (h : dt x = true) : flat x = true := by cases x <;> first | rfl | (simp [dt] at h)
theorem dt_tup {xs : List PV} (h : dt (.tup xs) = true) : fitL xs = true ∧ ∀ x ∈ xs, dt x = true := by
  simp only [dt, Bool.and_eq_true] at h
  exact ⟨h.1, dts_iff.mp h.2⟩
theorem dt_str {z : Str} (h : dt (.str z) = true) : z.length ≤ 16777216 := by simpa [dt] using h
theorem atI_nat {α : Type} {xs : List α} {i : Nat} (h : i < xs.length) : atI xs (i : Int) = some xs[i] := by
  have e : ixN xs.length (i : Int) = some i := by
    unfold ixN
    rw [if_pos (by omega), if_pos (by omega)]
    simp
  simp only [atI, e, Option.bind_some, List.getElem?_eq_getElem h]
theorem ix0 {x : PV} {xs : List PV} (st : Sto) : sIx (.tup (x :: xs)) (.int 0) st = .ok x st := by
  have := atI_nat (xs := x :: xs) (i := 0) (by simp)
  simp only [sIx]
  rw [show (0 : Int) = ((0 : Nat) : Int) from rfl, this]
  rfl
theorem ix1 {x y : PV} {xs : List PV} (st : Sto) : sIx (.tup (x :: y :: xs)) (.int 1) st = .ok y st := by
  have := atI_nat (xs := x :: y :: xs) (i := 1) (by simp)
  simp only [sIx]
  rw [show (1 : Int) = ((1 : Nat) : Int) from rfl, this]
  rfl
theorem sall_ok {ps : List Bool} (st : Sto) : sAll [.lst (ps.map .bl)] st = .ok (.bl (ps.all id)) st := by
  have : asBs (ps.map PV.bl) = some ps := by
    induction ps with
    | nil => rfl
    | cons p ps ih => simp only [List.map_cons, asBs, ih, Option.map_some]
  simp only [sAll, asL, Option.bind_some, this]
theorem sall_map {xs : List PV} {g : PV → Bool} (st : Sto) : sAll [.lst (xs.map fun x => .bl (g x))] st = .ok (.bl (xs.all g)) st := by
  have := sall_ok (ps := xs.map g) st
  rw [List.map_map] at this
  have e : (List.map g xs).all id = xs.all g := by rw [List.all_map]; rfl
  rw [e] at this
  exact this
/-- a comprehension of one name, whose body changes nothing -/
theorem lc_map {it : iL} {i : Nat} {m : M} {vs : List Nat} {env : Lo} {st : Sto} {xs : List PV} {g : PV → PV} (hi : it env st = .ok xs st) (hf : fitL xs = true) (h : ∀ x ∈ xs, m ((wipeL env vs).set i (some x)) st = .ok (g x) st) :
    mLc it (.one i) bYes m vs env st = .ok (.lst (xs.map g)) st := by
  simp only [mLc, hi, Res.bind_ok, hf, if_true]
  rw [lcGo_map fun x hx => ⟨_, rfl, rfl, h x hx⟩]
  rfl
/-- the same of tests, for all(...) -/
theorem lc_all {it : iL} {i : Nat} {m : M} {vs : List Nat} {env : Lo} {st : Sto} {xs : List PV} {g : PV → Bool} (hi : it env st = .ok xs st) (hf : fitL xs = true) (h : ∀ x ∈ xs, m ((wipeL env vs).set i (some x)) st = .ok (.bl (g x)) st) :
    mLc it (.one i) bYes m vs env st = .ok (.lst (xs.map fun x => .bl (g x))) st := lc_map hi hf h
/-! ### texts, sign by sign -/
theorem fit_signs {z : Str} (h : z.length ≤ 16777216) : fitL (Sim.signs z) = true := by
  unfold fitL Sim.signs
  rw [List.length_map, Array.length_toList]
  exact decide_eq_true h
theorem lenS {z : Str} (h : z.length ≤ 16777216) (st : Sto) : sLen [.str z] st = .ok (.int z.length) st := by
  show (if decide (z.length ≤ 16777216) = true then Res.ok (PV.int z.length) st else .bad) = _
  rw [if_pos (decide_eq_true h)]
theorem lex1 (a b : Nat) : decide ([a] < [b]) = decide (a < b) := by
  rw [decide_eq_decide, List.cons_lt_cons_iff]
  exact ⟨fun h => h.elim id fun q => absurd q.2 (List.not_lt_nil _), .inl⟩
def sgn : PV → Nat
  | .str z => z.cps.toList.headD 0
  | _ => 0
theorem all_signs (z : Str) (f : Nat → Bool) : (Sim.signs z).all (fun x => f (sgn x)) = z.cps.toList.all f := by
  unfold Sim.signs
  rw [List.all_map]
  congr 1
theorem mem_signs {z : Str} {x : PV} (h : x ∈ Sim.signs z) : ∃ c, x = .str ⟨#[c]⟩ := by
  obtain ⟨c, _, rfl⟩ := List.mem_map.mp h
  exact ⟨c, rfl⟩
/-! ### lists of texts -/
theorem asStrs_map : ∀ ws : List Str, asStrs (ws.map .str) = some ws
  | [] => rfl
  | w :: ws => by simp only [List.map_cons, asStrs, asStrs_map ws, Option.map_some]
theorem toDs_strs : ∀ ws : List Str, toDs (ws.map .str) = some (ws.map .str)
  | [] => rfl
  | w :: ws => by simp only [List.map_cons, toDs, toD, toDs_strs ws]
theorem eqvAll_strs : ∀ a b : List Str, PyData.eqvAll (a.map .str) (b.map .str) = decide (a = b)
  | [], [] => rfl
  | [], _ :: _ => rfl
  | _ :: _, [] => rfl
  | x :: a, y :: b => by
    simp only [List.map_cons, PyData.eqvAll, PyData.eqv, eqvAll_strs a b]
    rw [Bool.eq_iff_iff]
    simp
theorem depth_strs : ∀ ws : List Str, PyData.depthAll (ws.map .str) ≤ 1
  | [] => by simp [PyData.depthAll]
  | w :: ws => by
    have := depth_strs ws
    simp only [List.map_cons, PyData.depthAll, PyData.depth]
    omega
theorem shaped_strs {ws : List Str} (h : ∀ w ∈ ws, PyData.strOk w = true) : SeqAt.shaped (.list (ws.map .str)) = true := by
  have h1 : PyData.canLayAll0 (ws.map .str) = true := by
    rw [PyProof.Rows.canLayAll_strs']
    simpa [List.all_eq_true] using h
  have h2 := depth_strs ws
  have h3 : PyData.depth (.list (ws.map .str)) ≤ 64 := by simp only [PyData.depth]; omega
  have h4 : PyData.canLay0 (.list (ws.map .str)) = true := by simpa only [PyData.canLay0] using h1
  unfold SeqAt.shaped
  rw [h4, decide_eq_true h3]
  rfl
theorem eq_strs {a b : List Str} (ha : ∀ w ∈ a, PyData.strOk w = true) (hb : ∀ w ∈ b, PyData.strOk w = true) (st : Sto) : sEqn false (.lst (a.map .str)) (.lst (b.map .str)) st = .ok (.bl (decide (a = b))) st := by
  have e : ∀ ws : List Str, toDS st (.lst (ws.map .str)) = some (.list (ws.map .str)) := fun ws => by simp only [toDS, toD, toDs_strs, Option.map_some]
  have f : flatEq (.lst (a.map .str)) (.lst (b.map .str)) = none := rfl
  unfold sEqn
  simp only [f, e, shaped_strs ha, shaped_strs hb, Bool.and_self, if_true, PyData.eqv, eqvAll_strs, Bool.false_eq_true, if_false]
theorem sortset_ok {ws : List Str} (h : ws.length < 40) (st : Sto) : sSortSet (.lst (ws.map .str)) st = .ok (.lst ((sortU ws).map .str)) st := by
  simp only [sSortSet, asL, Option.bind_some, asStrs_map, decide_eq_true h, if_true]
/-! ### more loops -/
/-- a loop that ends at the first one that fails; P: what is known of the names between the turns -/
theorem for_all {t : Tgt} {body : MS} {st : Sto} {g : PV → Bool} {r : PV} (P : Lo → Prop) : ∀ {xs : List PV} {env : Lo}, (∀ e, P e → ∀ x ∈ xs, ∃ e1, t.run x e = some e1 ∧ (g x = true → ∃ e2, P e2 ∧ body e1 st = .nx e2 st) ∧ (g x = false → body e1 st = .rt r st)) → P env →
    (xs.all g = true ∧ ∃ e, P e ∧ forGo t body xs env st = .nx e st) ∨ (xs.all g = false ∧ forGo t body xs env st = .rt r st)
  | [], env, _, h0 => .inl ⟨rfl, env, h0, rfl⟩
  | x :: xs, env, h, h0 => by
    obtain ⟨e1, q1, q2, q3⟩ := h env h0 x (List.mem_cons_self ..)
    rcases Bool.eq_false_or_eq_true (g x) with hg | hg
    · obtain ⟨e2, p2, b2⟩ := q2 hg
      have ih := for_all P (fun e pe y m => h e pe y (List.mem_cons_of_mem _ m)) p2
      simp only [forGo, q1, b2, List.all_cons, hg, Bool.true_and]
      exact ih
    · right
      simp only [forGo, q1, q3 hg, List.all_cons, hg, Bool.false_and, and_self]
theorem lcT_map {it : iL} {t : Tgt} {m : M} {vs : List Nat} {env : Lo} {st : Sto} {xs : List PV} {g : PV → PV} (hi : it env st = .ok xs st) (hf : fitL xs = true) (h : ∀ x ∈ xs, ∃ e, t.run x (wipeL env vs) = some e ∧ m e st = .ok (g x) st) :
    mLc it t bYes m vs env st = .ok (.lst (xs.map g)) st := by
  simp only [mLc, hi, Res.bind_ok, hf, if_true]
  rw [lcGo_map fun x hx => by obtain ⟨e, h1, h2⟩ := h x hx; exact ⟨e, h1, rfl, h2⟩]
  rfl
theorem lcT_all {it : iL} {t : Tgt} {m : M} {vs : List Nat} {env : Lo} {st : Sto} {xs : List PV} {g : PV → Bool} (hi : it env st = .ok xs st) (hf : fitL xs = true) (h : ∀ x ∈ xs, ∃ e, t.run x (wipeL env vs) = some e ∧ m e st = .ok (.bl (g x)) st) :
    mLc it t bYes m vs env st = .ok (.lst (xs.map fun x => .bl (g x))) st := lcT_map hi hf h
/-- rising: each below the one behind it -/
def upP : List Str → Bool
  | a :: b :: r => decide (a.cps.toList < b.cps.toList) && upP (b :: r)
  | _ => true
theorem up_pw : ∀ {ws : List Str}, upP ws = true ↔ ws.Pairwise ltS
  | [] => by simp [upP]
  | [a] => by simp [upP]
  | a :: b :: r => by
    have ih := up_pw (ws := b :: r)
    simp only [upP, Bool.and_eq_true, decide_eq_true_eq, ih]
    constructor
    · rintro ⟨h1, h2⟩
      refine List.pairwise_cons.mpr ⟨fun c hc => ?_, h2⟩
      rcases List.mem_cons.mp hc with rfl | hc
      · exact h1
      · exact List.lt_trans h1 ((List.pairwise_cons.mp h2).1 c hc)
    · intro h
      obtain ⟨h1, h2⟩ := List.pairwise_cons.mp h
      exact ⟨h1 b (List.mem_cons_self ..), h2⟩
theorem up_sort {ws : List Str} : upP ws = decide (ws = sortU ws) := by
  rw [Bool.eq_iff_iff, up_pw, decide_eq_true_eq]
  constructor
  · intro h
    exact asc_same h (sortU_asc ws) fun k => (sortU_mem k ws).symm
  · intro h
    rw [h]
    exact sortU_asc ws
end Sim

set_option Elab.async false
set_option linter.all false
set_option maxRecDepth 100000
set_option maxHeartbeats 400000
namespace Sim
open PySem PySem.Spec PyProof.Rows L2

/-! ### data that can be shown: of a depth, of a size -/
mutual
def nv : Nat → PV → Bool
  | _, .non => true
  | _, .bl _ => true
  | _, .int i => decide (-999999999999 ≤ i) && decide (i ≤ 1000000000000)
  | _, .str z => decide (z.length ≤ 1000) && z.cps.toList.all (fun c => decide (c < 1114112))
  | n + 1, .tup xs => nvs n xs
  | n + 1, .lst xs => nvs n xs
  | _ + 1, .dct kvs => kvs.isEmpty
  | _, _ => false
def nvs : Nat → List PV → Bool
  | _, [] => true
  | n, x :: xs => nv n x && nvs n xs
end
mutual
def sz : PV → Nat
  | .str z => z.cps.size
  | .tup xs => szs xs
  | .lst xs => szs xs
  | _ => 0
def szs : List PV → Nat
  | [] => 0
  | x :: xs => sz x + 1 + szs xs
end
theorem nvs_iff {n : Nat} : ∀ {xs : List PV}, nvs n xs = true ↔ ∀ x ∈ xs, nv n x = true
  | [] => by simp [nvs]
  | x :: xs => by simp only [nvs, Bool.and_eq_true, nvs_iff (xs := xs), List.forall_mem_cons]
theorem szs_len : ∀ xs : List PV, xs.length ≤ szs xs
  | [] => by simp
  | x :: xs => by
    have := szs_len xs
    simp only [szs, List.length_cons]
    omega
theorem sz_mem : ∀ {xs : List PV} {x : PV}, x ∈ xs → sz x + 1 ≤ szs xs
  | y :: xs, x, h => by
    rcases List.mem_cons.mp h with rfl | h
    · simp only [szs]; omega
    · have := sz_mem h
      simp only [szs]; omega
structure Shown (n : Nat) (x : PV) (d : PyData) : Prop where
  is : toDD x = some d
  lv : d.leavesShort 13 = true
  sh : d.showable = true
  dp : d.depth ≤ n
  bk : d.bulk = sz x
structure ShownL (n : Nat) (xs : List PV) (ds : List PyData) : Prop where
  is : toDDs xs = some ds
  lv : PyData.leavesShortAll 13 ds = true
  sh : PyData.showableAll ds = true
  dp : PyData.depthAll ds ≤ n
  bk : PyData.bulkAll ds = szs xs
theorem log_small {i : Int} (h1 : -999999999999 ≤ i) (h2 : i ≤ 1000000000000) : i.natAbs.log2 < 1920 := by
  have h : i.natAbs < 2 ^ 44 := by
    have : (2 : Nat) ^ 44 = 17592186044416 := by decide
    omega
  by_cases h0 : i.natAbs = 0
  · rw [h0]; decide
  · have := (Nat.log2_lt h0).mpr h
    omega
theorem short_int {i : Int} (h1 : -999999999999 ≤ i) (h2 : i ≤ 1000000000000) : (PyData.shown (.int i)).length ≤ 13 := by
  by_cases e : i = 1000000000000
  · subst e; decide +kernel
  · exact PyData.shown_int_le2 h1 (by omega)
mutual
theorem nv_shown : ∀ {n : Nat} {x : PV}, nv n x = true → ∃ d, Shown n x d
  | _, .non, _ => ⟨.none, rfl, rfl, rfl, Nat.zero_le _, rfl⟩
  | _, .bl b, _ => ⟨.bool b, rfl, rfl, rfl, Nat.zero_le _, rfl⟩
  | _, .int i, h => by
    simp only [nv, Bool.and_eq_true, decide_eq_true_eq] at h
    refine ⟨.int i, rfl, ?_, ?_, Nat.zero_le _, rfl⟩
    · simp only [PyData.leavesShort]; exact decide_eq_true (short_int h.1 h.2)
    · simp only [PyData.showable]; exact decide_eq_true (log_small h.1 h.2)
  | _, .str z, h => by
    simp only [nv, Bool.and_eq_true, decide_eq_true_eq, List.all_eq_true] at h
    refine ⟨.str z, rfl, ?_, by simp [PyData.showable], Nat.zero_le _, rfl⟩
    simp only [PyData.leavesShort, List.all_eq_true, decide_eq_true_eq]
    exact fun c hc => Nat.lt_of_lt_of_le (h.2 c hc) (by decide)
  | n + 1, .tup xs, h => by
    simp only [nv] at h
    obtain ⟨ds, q⟩ := nvs_shown h
    refine ⟨.tuple ds, by simp only [toDD, q.is, Option.map_some], by simp only [PyData.leavesShort, q.lv], by simp only [PyData.showable, q.sh], ?_, by simp only [PyData.bulk, sz, q.bk]⟩
    have := q.dp
    simp only [PyData.depth]
    omega
  | n + 1, .lst xs, h => by
    simp only [nv] at h
    obtain ⟨ds, q⟩ := nvs_shown h
    refine ⟨.list ds, by simp only [toDD, q.is, Option.map_some], by simp only [PyData.leavesShort, q.lv], by simp only [PyData.showable, q.sh], ?_, by simp only [PyData.bulk, sz, q.bk]⟩
    have := q.dp
    simp only [PyData.depth]
    omega
  | n + 1, .dct kvs, h => by
    simp only [nv, List.isEmpty_iff] at h
    subst h
    refine ⟨.dict [], rfl, rfl, rfl, ?_, rfl⟩
    simp only [PyData.depth, PyData.depthKv]
    omega
  | 0, .tup _, h => nomatch h
  | 0, .lst _, h => nomatch h
  | 0, .dct _, h => nomatch h
  | 0, .rol _, h => nomatch h
  | 0, .ref _, h => nomatch h
  | 0, .raw _, h => nomatch h
  | _ + 1, .rol _, h => nomatch h
  | _ + 1, .ref _, h => nomatch h
  | _ + 1, .raw _, h => nomatch h
theorem nvs_shown : ∀ {n : Nat} {xs : List PV}, nvs n xs = true → ∃ ds, ShownL n xs ds
  | _, [], _ => ⟨[], rfl, rfl, rfl, Nat.zero_le _, rfl⟩
  | n, x :: xs, h => by
    simp only [nvs, Bool.and_eq_true] at h
    obtain ⟨d, q⟩ := nv_shown h.1
    obtain ⟨ds, l⟩ := nvs_shown h.2
    refine ⟨d :: ds, by simp only [toDDs, q.is, l.is], by simp only [PyData.leavesShortAll, q.lv, l.lv, Bool.and_self], by simp only [PyData.showableAll, q.sh, l.sh, Bool.and_self], ?_, by simp only [PyData.bulkAll, szs, q.bk, l.bk]⟩
    have := q.dp
    have := l.dp
    simp only [PyData.depthAll]
    omega
end
/-- what str() of a value is, if it can be told -/
def Shows (x : PV) : Prop := ∃ z, ∀ st, sStr [x] st = .ok (.str z) st
theorem shows_of {n : Nat} {x : PV} (hn : n ≤ 50) (h : nv n x = true) (hz : sz x ≤ 2 ^ 20) : Shows x := by
  obtain ⟨d, q⟩ := nv_shown h
  have hl : d.shown.length ≤ 16777216 := by
    have := PyData.shown_fits_bulk (B := 13) (by decide) (by decide) q.lv (by rw [q.bk]; exact hz)
    rwa [sizeLine_eq] at this
  have hd : d.depth ≤ 50 := Nat.le_trans q.dp hn
  cases x with
  | str z => exact ⟨z, fun st => rfl⟩
  | ref k => cases n <;> exact nomatch h
  | _ => exact ⟨d.shown, fun st => by simp only [sStr, unref, q.is, q.sh, decide_eq_true hd, decide_eq_true hl, Bool.and_self, if_true]⟩
mutual
theorem nv_dt : ∀ {n : Nat} {x : PV}, nv n x = true → sz x ≤ 2 ^ 20 → dt x = true
  | _, .non, _, _ => rfl
  | _, .bl _, _, _ => rfl
  | _, .int _, _, _ => rfl
  | _, .str z, h, _ => by
    simp only [nv, Bool.and_eq_true, decide_eq_true_eq] at h
    simp only [dt, decide_eq_true_eq]
    omega
  | n + 1, .tup xs, h, hz => by
    simp only [nv] at h
    simp only [sz] at hz
    have := szs_len xs
    have e : fitL xs = true := decide_eq_true (by omega)
    simp only [dt, e, Bool.true_and]
    exact nvs_dt h hz
  | n + 1, .lst xs, h, hz => by
    simp only [nv] at h
    simp only [sz] at hz
    have := szs_len xs
    have e : fitL xs = true := decide_eq_true (by omega)
    simp only [dt, e, Bool.true_and]
    exact nvs_dt h hz
  | _ + 1, .dct _, _, _ => rfl
  | 0, .tup _, h, _ => nomatch h
  | 0, .lst _, h, _ => nomatch h
  | 0, .dct _, h, _ => nomatch h
  | 0, .rol _, h, _ => nomatch h
  | 0, .ref _, h, _ => nomatch h
  | 0, .raw _, h, _ => nomatch h
  | _ + 1, .rol _, h, _ => nomatch h
  | _ + 1, .ref _, h, _ => nomatch h
  | _ + 1, .raw _, h, _ => nomatch h
theorem nvs_dt : ∀ {n : Nat} {xs : List PV}, nvs n xs = true → szs xs ≤ 2 ^ 20 → dts xs = true
  | _, [], _, _ => rfl
  | n, x :: xs, h, hz => by
    simp only [nvs, Bool.and_eq_true] at h
    simp only [szs] at hz
    simp only [dts, nv_dt h.1 (by omega), nvs_dt h.2 (by omega), Bool.and_self]
end
mutual
/-- no dict in it -/
def pl : PV → Bool
  | .tup xs => pls xs
  | .lst xs => pls xs
  | .dct _ => false
  | _ => true
def pls : List PV → Bool
  | [] => true
  | x :: xs => pl x && pls xs
end
theorem pls_iff : ∀ {xs : List PV}, pls xs = true ↔ ∀ x ∈ xs, pl x = true
  | [] => by simp [pls]
  | x :: xs => by simp only [pls, Bool.and_eq_true, pls_iff (xs := xs), List.forall_mem_cons]
mutual
theorem nv_plain : ∀ {n : Nat} {x : PV}, nv n x = true → pl x = true → ∃ d, toD x = some d ∧ d.canLay0 = true ∧ d.depth ≤ n
  | _, .non, _, _ => ⟨.none, rfl, rfl, Nat.zero_le _⟩
  | _, .bl b, _, _ => ⟨.bool b, rfl, rfl, Nat.zero_le _⟩
  | _, .int i, _, _ => ⟨.int i, rfl, rfl, Nat.zero_le _⟩
  | _, .str z, h, _ => by
    simp only [nv, Bool.and_eq_true, decide_eq_true_eq, List.all_eq_true] at h
    refine ⟨.str z, rfl, ?_, Nat.zero_le _⟩
    show z.cps.all (· < 0x110000) = true
    rw [Array.all_eq_true_iff_forall_mem]
    intro c hc
    exact decide_eq_true (h.2 c (Array.mem_toList_iff.mpr hc))
  | n + 1, .tup xs, h, hp => by
    simp only [nv] at h
    simp only [pl] at hp
    obtain ⟨ds, q1, q2, q3⟩ := nvs_plain h hp
    exact ⟨.tuple ds, by simp only [toD, q1, Option.map_some], by simp only [PyData.canLay0, q2], by simp only [PyData.depth]; omega⟩
  | n + 1, .lst xs, h, hp => by
    simp only [nv] at h
    simp only [pl] at hp
    obtain ⟨ds, q1, q2, q3⟩ := nvs_plain h hp
    exact ⟨.list ds, by simp only [toD, q1, Option.map_some], by simp only [PyData.canLay0, q2], by simp only [PyData.depth]; omega⟩
  | _ + 1, .dct _, _, h => nomatch h
  | 0, .tup _, h, _ => nomatch h
  | 0, .lst _, h, _ => nomatch h
  | 0, .dct _, h, _ => nomatch h
  | 0, .rol _, h, _ => nomatch h
  | 0, .ref _, h, _ => nomatch h
  | 0, .raw _, h, _ => nomatch h
  | _ + 1, .rol _, h, _ => nomatch h
  | _ + 1, .ref _, h, _ => nomatch h
  | _ + 1, .raw _, h, _ => nomatch h
theorem nvs_plain : ∀ {n : Nat} {xs : List PV}, nvs n xs = true → pls xs = true → ∃ ds, toDs xs = some ds ∧ PyData.canLayAll0 ds = true ∧ PyData.depthAll ds ≤ n
  | _, [], _, _ => ⟨[], rfl, rfl, Nat.zero_le _⟩
  | n, x :: xs, h, hp => by
    simp only [nvs, Bool.and_eq_true] at h
    simp only [pls, Bool.and_eq_true] at hp
    obtain ⟨d, q1, q2, q3⟩ := nv_plain h.1 hp.1
    obtain ⟨ds, l1, l2, l3⟩ := nvs_plain h.2 hp.2
    exact ⟨d :: ds, by simp only [toDs, q1, l1], by simp only [PyData.canLayAll0, q2, l2, Bool.and_self], by simp only [PyData.depthAll]; omega⟩
end
theorem plain_shaped {n : Nat} {x : PV} (hn : n ≤ 64) (h : nv n x = true) (hp : pl x = true) : ∃ d, toD x = some d ∧ SeqAt.shaped d = true := by
  obtain ⟨d, q1, q2, q3⟩ := nv_plain h hp
  exact ⟨d, q1, by unfold SeqAt.shaped; rw [q2, decide_eq_true (Nat.le_trans q3 hn)]; rfl⟩
/-! ### lists of values written down, with places for values that are not -/
mutual
/-- a text with places: .ref k stands for the k-th value -/
def ins (ρ : Nat → PV) : PV → PV
  | .ref k => ρ k
  | .tup xs => .tup (inss ρ xs)
  | .lst xs => .lst (inss ρ xs)
  | x => x
def inss (ρ : Nat → PV) : List PV → List PV
  | [] => []
  | x :: xs => ins ρ x :: inss ρ xs
end
theorem inss_map (ρ : Nat → PV) : ∀ xs : List PV, inss ρ xs = xs.map (ins ρ)
  | [] => rfl
  | x :: xs => by simp only [inss, inss_map ρ xs, List.map_cons]
mutual
/-- what nv says of it, where every value put in is of depth D -/
def nvT (D : Nat → Nat) : Nat → PV → Bool
  | n, .ref k => decide (D k ≤ n)
  | _, .non => true
  | _, .bl _ => true
  | _, .int i => decide (-999999999999 ≤ i) && decide (i ≤ 1000000000000)
  | _, .str z => decide (z.length ≤ 1000) && z.cps.toList.all (fun c => decide (c < 1114112))
  | n + 1, .tup xs => nvTs D n xs
  | n + 1, .lst xs => nvTs D n xs
  | _ + 1, .dct kvs => kvs.isEmpty
  | _, _ => false
def nvTs (D : Nat → Nat) : Nat → List PV → Bool
  | _, [] => true
  | n, x :: xs => nvT D n x && nvTs D n xs
end
mutual
def szT (W : Nat) : PV → Nat
  | .ref _ => W
  | .str z => z.cps.size
  | .tup xs => szTs W xs
  | .lst xs => szTs W xs
  | _ => 0
def szTs (W : Nat) : List PV → Nat
  | [] => 0
  | x :: xs => szT W x + 1 + szTs W xs
end
mutual
theorem nv_mono : ∀ {n m : Nat} {x : PV}, n ≤ m → nv n x = true → nv m x = true
  | _, _, .non, _, _ => by simp only [nv]
  | _, _, .bl _, _, _ => by simp only [nv]
  | _, _, .int _, _, h => by simpa only [nv] using h
  | _, _, .str _, _, h => by simpa only [nv] using h
  | n + 1, m + 1, .tup xs, l, h => by simp only [nv] at h ⊢; exact nvs_mono (Nat.le_of_succ_le_succ l) h
  | n + 1, m + 1, .lst xs, l, h => by simp only [nv] at h ⊢; exact nvs_mono (Nat.le_of_succ_le_succ l) h
  | n + 1, m + 1, .dct kvs, l, h => by simpa only [nv] using h
  | n + 1, 0, .tup _, l, h => by omega
  | n + 1, 0, .lst _, l, h => by omega
  | n + 1, 0, .dct _, l, h => by omega
  | 0, _, .tup _, _, h => nomatch h
  | 0, _, .lst _, _, h => nomatch h
  | 0, _, .dct _, _, h => nomatch h
  | 0, _, .rol _, _, h => nomatch h
  | 0, _, .ref _, _, h => nomatch h
  | 0, _, .raw _, _, h => nomatch h
  | _ + 1, _, .rol _, _, h => nomatch h
  | _ + 1, _, .ref _, _, h => nomatch h
  | _ + 1, _, .raw _, _, h => nomatch h
theorem nvs_mono : ∀ {n m : Nat} {xs : List PV}, n ≤ m → nvs n xs = true → nvs m xs = true
  | _, _, [], _, _ => by simp only [nvs]
  | _, _, x :: xs, l, h => by
    simp only [nvs, Bool.and_eq_true] at h ⊢
    exact ⟨nv_mono l h.1, nvs_mono l h.2⟩
end
mutual
theorem nv_ins {ρ : Nat → PV} {D : Nat → Nat} (hρ : ∀ k, nv (D k) (ρ k) = true) : ∀ {n : Nat} {x : PV}, nvT D n x = true → nv n (ins ρ x) = true
  | _, .ref k, h => by
    simp only [nvT, decide_eq_true_eq] at h
    simp only [ins]
    exact nv_mono h (hρ k)
  | _, .non, _ => by simp only [ins, nv]
  | _, .bl _, _ => by simp only [ins, nv]
  | _, .int _, h => by simp only [nvT] at h; simpa only [ins, nv] using h
  | _, .str _, h => by simp only [nvT] at h; simpa only [ins, nv] using h
  | n + 1, .tup xs, h => by simp only [nvT] at h; simp only [ins, nv]; exact nvs_ins hρ h
  | n + 1, .lst xs, h => by simp only [nvT] at h; simp only [ins, nv]; exact nvs_ins hρ h
  | n + 1, .dct kvs, h => by simp only [nvT] at h; simpa only [ins, nv] using h
  | 0, .tup _, h => nomatch h
  | 0, .lst _, h => nomatch h
  | 0, .dct _, h => nomatch h
  | 0, .rol _, h => nomatch h
  | 0, .raw _, h => nomatch h
  | _ + 1, .rol _, h => nomatch h
  | _ + 1, .raw _, h => nomatch h
theorem nvs_ins {ρ : Nat → PV} {D : Nat → Nat} (hρ : ∀ k, nv (D k) (ρ k) = true) : ∀ {n : Nat} {xs : List PV}, nvTs D n xs = true → nvs n (inss ρ xs) = true
  | _, [], _ => by simp only [inss, nvs]
  | _, x :: xs, h => by
    simp only [nvTs, Bool.and_eq_true] at h
    simp only [inss, nvs, Bool.and_eq_true]
    exact ⟨nv_ins hρ h.1, nvs_ins hρ h.2⟩
end
mutual
theorem sz_ins {ρ : Nat → PV} {W : Nat} (hρ : ∀ k, sz (ρ k) ≤ W) : ∀ x : PV, sz (ins ρ x) ≤ szT W x
  | .ref k => by simp only [ins, szT]; exact hρ k
  | .non => by simp [ins, sz]
  | .bl _ => by simp [ins, sz]
  | .int _ => by simp [ins, sz]
  | .str _ => by simp [ins, sz, szT]
  | .tup xs => by simp only [ins, sz, szT]; exact szs_ins hρ xs
  | .lst xs => by simp only [ins, sz, szT]; exact szs_ins hρ xs
  | .dct _ => by simp [ins, sz]
  | .rol _ => by simp [ins, sz]
  | .raw _ => by simp [ins, sz]
  | .wtp _ => by simp [ins, sz]
  | .err _ => by simp [ins, sz]
theorem szs_ins {ρ : Nat → PV} {W : Nat} (hρ : ∀ k, sz (ρ k) ≤ W) : ∀ xs : List PV, szs (inss ρ xs) ≤ szTs W xs
  | [] => by simp [inss, szs]
  | x :: xs => by
    have h1 := sz_ins hρ x
    have h2 := szs_ins hρ xs
    simp only [inss, szs, szTs]
    omega
end
mutual
theorem low_nv : ∀ {n k : Nat} {x : PV}, nv n x = true → low k x = true
  | _, _, .non, _ => rfl
  | _, _, .bl _, _ => rfl
  | _, _, .int _, _ => rfl
  | _, _, .str _, _ => rfl
  | n + 1, _, .tup xs, h => by simp only [nv] at h; simp only [low]; exact lows_nv h
  | n + 1, _, .lst xs, h => by simp only [nv] at h; simp only [low]; exact lows_nv h
  | n + 1, _, .dct kvs, h => by
    simp only [nv, List.isEmpty_iff] at h
    subst h
    rfl
  | 0, _, .tup _, h => nomatch h
  | 0, _, .lst _, h => nomatch h
  | 0, _, .dct _, h => nomatch h
  | 0, _, .rol _, h => nomatch h
  | 0, _, .ref _, h => nomatch h
  | 0, _, .raw _, h => nomatch h
  | _ + 1, _, .rol _, h => nomatch h
  | _ + 1, _, .ref _, h => nomatch h
  | _ + 1, _, .raw _, h => nomatch h
theorem lows_nv : ∀ {n k : Nat} {xs : List PV}, nvs n xs = true → lows k xs = true
  | _, _, [], _ => rfl
  | _, _, x :: xs, h => by
    simp only [nvs, Bool.and_eq_true] at h
    simp only [lows, Bool.and_eq_true]
    exact ⟨low_nv h.1, lows_nv h.2⟩
end
/-! ### loops told by what is known at each turn -/
theorem for_inv {t : Tgt} {body : MS} (I : List PV → Lo → Sto → Prop) (step : ∀ x xs e s, I (x :: xs) e s → ∃ e1, t.run x e = some e1 ∧ ∃ e2 s2, body e1 s = .nx e2 s2 ∧ I xs e2 s2) :
    ∀ {xs : List PV} {e : Lo} {s : Sto}, I xs e s → ∃ e2 s2, forGo t body xs e s = .nx e2 s2 ∧ I [] e2 s2
  | [], e, s, h => ⟨e, s, rfl, h⟩
  | x :: xs, e, s, h => by
    obtain ⟨e1, q1, e2, s2, q2, q3⟩ := step x xs e s h
    simp only [forGo, q1, q2]
    exact for_inv I step q3
/-- a comprehension told the same way: P of each value, I of the store -/
theorem lc_inv {t : Tgt} {m : M} {env0 : Lo} (P : PV → PV → Prop) (I : Sto → Prop) : ∀ {xs : List PV} {s : Sto}, (∀ x ∈ xs, ∀ s, I s → ∃ e, t.run x env0 = some e ∧ ∃ y s2, m e s = .ok y s2 ∧ P x y ∧ I s2) → I s →
    ∃ ys s2, lcGo t bYes m env0 xs s = .ok ys s2 ∧ I s2 ∧ ys.length = xs.length ∧ ∀ p ∈ xs.zip ys, P p.1 p.2
  | [], s, _, h => ⟨[], s, rfl, h, rfl, by simp⟩
  | x :: xs, s, hs, h => by
    obtain ⟨e, q1, y, s2, q2, q3, q4⟩ := hs x (List.mem_cons_self ..) s h
    obtain ⟨ys, s3, r1, r2, r3, r4⟩ := lc_inv P I (fun z m => hs z (List.mem_cons_of_mem _ m)) q4
    refine ⟨y :: ys, s3, ?_, r2, by simp [r3], ?_⟩
    · simp only [lcGo, q1, bYes, Res.only, Res.bind_ok, if_true, q2, r1]
    · intro p hp
      rw [List.zip_cons_cons] at hp
      rcases List.mem_cons.mp hp with rfl | hp
      · exact q3
      · exact r4 p hp
/-! ### a list of one's own at the end of the store -/
theorem get_end (st : Sto) (x : MO) : (st ++ [x])[st.length]? = some x := by simp
theorem set_end (st : Sto) (x y : MO) : (st ++ [x]).set st.length y = st ++ [y] := by simp
theorem set_low {st : Sto} {k : Nat} (h : k < st.length) (x y : MO) : (st ++ [x]).set k y = st.set k y ++ [x] := by rw [List.set_append_left _ _ h]
theorem get_low {st : Sto} {k : Nat} (h : k < st.length) (x : MO) : (st ++ [x])[k]? = st[k]? := List.getElem?_append_left h
theorem get_set {st : Sto} {k : Nat} (h : k < st.length) (x : MO) : (st.set k x)[k]? = some x := by simp [h]
theorem app_ok {st : Sto} {xs : List PV} {L : Nat} (h : st[L]? = some (.lst xs)) (hl : xs.length < 16777216) (y : PV) : sApp (.ref L) y st = .ok .non (st.set L (.lst (xs ++ [y]))) := by
  simp only [sApp, h, decide_eq_true hl, if_true]
theorem isl_ok {st : Sto} {xs : List PV} {L : Nat} (h : st[L]? = some (.lst xs)) : isLst (.ref L) st = true := by
  simp only [isLst, h]
theorem tup_ok {xs : List PV} (h : fitL xs = true) (st : Sto) : sTup xs st = .ok (.tup xs) st := by simp only [sTup, h, if_true]
theorem lstF_ok {xs : List PV} (h : fitL xs = true) (st : Sto) : sLstF xs st = .ok (.lst xs) st := by simp only [sLstF, h, if_true]
theorem lstM_ok {xs : List PV} (h : fitL xs = true) (st : Sto) : sLstM xs st = .ok (.ref st.length) (st ++ [.lst xs]) := by simp only [sLstM, h, if_true]
theorem ixLF {xs : List PV} {i : Nat} (h : i < xs.length) (st : Sto) : sIx (.lst xs) (.int i) st = .ok xs[i] st := by
  simp only [sIx, asD, asL, atI_nat h]
theorem ixRM {st : Sto} {L : Nat} {xs : List PV} (h0 : st[L]? = some (.lst xs)) {i : Nat} (h : i < xs.length) : sIx (.ref L) (.int i) st = .ok xs[i] st := by
  simp only [sIx, asD, asL, h0, atI_nat h]
theorem tupM {st : Sto} {L : Nat} {xs : List PV} (h0 : st[L]? = some (.lst xs)) : sTuple [.ref L] st = .ok (.tup xs) st := by
  simp only [sTuple, asL, h0]
theorem lenM {st : Sto} {L : Nat} {xs : List PV} (h0 : st[L]? = some (.lst xs)) : sLen [.ref L] st = .ok (.int xs.length) st := by
  simp only [sLen, asS, asL, h0]
theorem set_same {st : Sto} {k : Nat} {x : MO} (h : st[k]? = some x) : st.set k x = st := by
  apply List.ext_getElem?
  intro i
  rw [List.getElem?_set]
  split
  · rename_i e
    subst e
    split
    · exact h.symm
    · rename_i q
      rw [List.getElem?_eq_none (by omega)] at h
      cases h
  · rfl
theorem in_st {st : Sto} {k : Nat} {x : MO} (h : st[k]? = some x) : k < st.length := by
  rcases Nat.lt_or_ge k st.length with q | q
  · exact q
  · rw [List.getElem?_eq_none q] at h; cases h
theorem ne_eq_int (a b : Int) (st : Sto) : sEqn true (.int a) (.int b) st = .ok (.bl (!decide (a = b))) st := rfl
theorem eq_eq_int (a b : Int) (st : Sto) : sEqn false (.int a) (.int b) st = .ok (.bl (decide (a = b))) st := rfl
/-- what a def leaves behind it: an int's list is changed, its own list goes -/
theorem gc_own {st : Sto} {k : Nat} {a : Int} {t : Sto} {x : PV} (hx : low st.length x = true) : gc st x (st.set k (.lst [.int a]) ++ t) = .ok x (st.set k (.lst [.int a])) := by
  rw [gc_fit hx (by simp)]
  · rw [show st.length = (st.set k (.lst [.int a])).length by simp, List.take_left]
  · intro i b hi hb
    rw [List.getElem?_append_left (by simpa using hi), List.getElem?_set] at hb
    split at hb
    · split at hb
      · cases hb; exact .inr rfl
      · cases hb
    · exact .inl hb
theorem gc_own0 {st : Sto} {k : Nat} {a : Int} {x : PV} (hx : low st.length x = true) : gc st x (st.set k (.lst [.int a])) = .ok x (st.set k (.lst [.int a])) := by
  have := gc_own (k := k) (a := a) (t := []) hx
  rwa [List.append_nil] at this
theorem cIf_f {c : MB} {a b : MS} {env : Lo} {st s : Sto} (h : c env st = .ok false s) : cIf c a b env st = b env s := by
  simp only [cIf, h, Bool.false_eq_true, if_false]
theorem cIf_t {c : MB} {a b : MS} {env : Lo} {st s : Sto} (h : c env st = .ok true s) : cIf c a b env st = a env s := by
  simp only [cIf, h, if_true]
end Sim

set_option Elab.async false
set_option linter.all false
set_option maxRecDepth 100000
set_option maxHeartbeats 4000000
namespace Sim
open PySem PySem.Spec PyProof.Rows L2
variable [Tb] [Lm]
/-! ### what never comes to pass -/
def cBad : MS := fun _ _ => .bad
def mBad : M := fun _ _ => .bad
section
variable {X : Cx} {T : String → Value} {E : XK}
theorem s_bad {s : Stmt} : SX X T E s cBad := ⟨fun pp s σ H D I ⟨g, st, env, so, en, h⟩ => (show False from h).elim⟩
theorem x_bad {e : Expr} : EX X T E e mBad := ⟨fun pp s σ H Q I ⟨g, st, env, so, en, h⟩ => (show False from h).elim⟩
end
/-! ### name += e, of ints -/
def cAug (f : Int → Int → Int) (i : Nat) (m : M) : MS := fun env st => match env[i]? with
  | some (some (.int a)) => match m env st with
    | .ok (.int b) s => .nx (env.set i (some (.int (f a b)))) s
    | .exc n fs s => .exc n fs s
    | _ => .bad
  | _ => .bad
section
variable {X : Cx} {T : String → Value} {E : XK}
theorem s_aug {op : Operator} {f : Int → Int → Int} {i : Nat} {x : Str} {e : Expr} {m : M} {pos pos' : Pos} (ho : PIp X op (ipI f)) (hN : X.N.Nodup) (hi : X.N[i]? = some x) (hx : Loc X.env.scope x) (he : EX X T E e m)
    (hf : X.fn x = true ∨ X.env.scope.names.lookup x = some .local := by first | exact .inl rfl | exact .inr rfl | assumption) :
    SX X T E (.AugAssign (.Name x pos') op e pos) (cAug f i m) :=
  ps_imp (ps_aug hN hi hx he ho hf) fun D σ H ⟨g, st, env, so, en, h⟩ => by
    unfold cAug at h
    split at h
    · rename_i a ea
      obtain ⟨v, e1, r⟩ := en.at_ i _ ea
      cases r
      refine ⟨_, e1, g, st, env, so, en, ?_⟩
      split at h
      · rename_i b s q
        rw [q]
        intro g' H' w xe so' rw'
        cases rw'
        refine ⟨a, b, rfl, rfl, ?_⟩
        exact h g' H' _ xe so' ((en.mono xe).set (.int _) i)
      · rename_i n fs s q
        rw [q]
        exact h
      · exact h.elim
    · exact h.elim
end
/-! ### dict(x) of pairs -/
def asPr : PV → Option (Key × PV)
  | .tup [k, v] => (toKey k).map fun q => (q, v)
  | _ => none
def putP (kvs : List (Key × PV)) (k : Key) (v : PV) : List (Key × PV) :=
  if (kvs.any fun kv => decide (kv.1 = k)) = true then kvs.map (fun kv => if kv.1 = k then (kv.1, v) else kv) else kvs ++ [(k, v)]
def mergeP (more : List (Key × PV)) : List (Key × PV) := more.foldl (fun acc kv => putP acc kv.1 kv.2) []
def sDict : SeN := fun xs st => match xs with
  | [x] => match (asS st x).bind (mapO asPr) with
    | some kvs => .ok (.dct (mergeP kvs)) st
    | none => .bad
  | _ => .bad
section
variable {K : PySem.W.Frag} {g : G} {H : Hp}
theorem RVK.put {x : PV} {v : V} (r : RV K g H x v) (k : Key) {kvs : List (Key × PV)} {ws : List (Key × V)} (l : RVK K g H kvs ws) : RVK K g H (putP kvs k x) (putK ws k v) := by
  have a : ∀ {kvs : List (Key × PV)} {ws : List (Key × V)}, RVK K g H kvs ws → (kvs.any fun kv => decide (kv.1 = k)) = (ws.any fun kv => decide (kv.1 = k)) := by
    intro kvs
    induction kvs with
    | nil => intro ws l; cases l; rfl
    | cons p ps ih => intro ws l; cases l with | cons r l => simp only [List.any_cons, ih l]
  unfold putP putK
  rw [a l]
  split
  · rename_i hh
    clear a hh
    induction kvs generalizing ws with
    | nil => cases l; exact .nil
    | cons p ps ih =>
      cases l with
      | cons r' l =>
        simp only [List.map_cons]
        split
        · exact .cons r (ih l)
        · exact .cons r' (ih l)
  · rename_i hh
    clear a hh
    induction kvs generalizing ws with
    | nil => cases l; exact .cons r .nil
    | cons p ps ih => cases l with | cons r' l => exact .cons r' (ih l)
theorem RVK.merge {more : List (Key × PV)} {ws : List (Key × V)} (l : RVK K g H more ws) : RVK K g H (mergeP more) (mergeK [] ws) := by
  have go : ∀ {more : List (Key × PV)} {ws : List (Key × V)} {acc : List (Key × PV)} {bs : List (Key × V)}, RVK K g H more ws → RVK K g H acc bs → RVK K g H (more.foldl (fun acc kv => putP acc kv.1 kv.2) acc) (ws.foldl (fun acc kv => putK acc kv.1 kv.2) bs) := by
    intro more
    induction more with
    | nil => intro ws acc bs l m; cases l; exact m
    | cons p ps ih => intro ws acc bs l m; cases l with | @cons kk xx _ vv vs r l => exact ih (ws := vs) (acc := putP acc kk xx) (bs := putK bs kk vv) l (RVK.put r kk m)
  exact go l .nil
theorem pairs_as : ∀ {xs : List PV} {vs : List V} {kvs : List (Key × PV)}, RVL K g H xs vs → mapO asPr xs = some kvs →
    ∃ (ps : List Addr) (ws : List (Key × V)), vs = ps.map V.ref ∧ Paired (fun p kv => SqT K H p [kV kv.1, kv.2]) ps ws ∧ RVK K g H kvs ws
  | _, _, _, .nil, e => by cases e; exact ⟨[], [], rfl, .nil, .nil⟩
  | _, _, _, .cons (x := x) r l, e => by
    simp only [mapO] at e
    split at e
    · rename_i kv kvs e1 e2
      cases e
      unfold asPr at e1
      split at e1
      · rename_i k y
        obtain ⟨q, ek, rfl⟩ := Option.map_eq_some_iff.mp e1
        obtain ⟨ps, ws, rfl, hp, hr⟩ := pairs_as l e2
        cases r with
        | tup h l2 => cases l2 with
          | cons rk l3 => cases l3 with
            | cons ry l4 =>
              cases l4
              cases toKey_ok rk ek
              exact ⟨_ :: ps, (q, _) :: ws, rfl, .cons h.t hp, .cons ry hr⟩
      · cases e1
    · cases e
end
section
variable {X : Cx} {T : String → Value} {E : XK}
abbrev rDict2 (K : PySem.W.Frag) : List V → Hp → VK → Prop := fun xs H Q => (∃ (a : Addr) (ps : List Addr) (kvs : List (Key × V)), xs = [.ref a] ∧ SqL K H a (ps.map V.ref) ∧ Paired (fun p kv => SqT K H p [kV kv.1, kv.2]) ps kvs ∧
    ∀ p, H p = none → Q (.ref p) (upd H p (.dK (mergeK [] kvs)))) ∨ (∃ (a : Addr) (ps : List Addr) (kvs : List (Key × V)), xs = [.ref a] ∧ SqN K H a (ps.map V.ref) ∧ Paired (fun p kv => SqT K H p [kV kv.1, kv.2]) ps kvs ∧
    ∀ p, H p = none → Q (.ref p) (upd H p (.dK (mergeK [] kvs))))
theorem call_dict2 (hc : X.calm = true) : CallR X (.type "dict") (rDict2 X.K) := (call_dictP hc).or (call_dictN hc)
theorem giveD {K : PySem.W.Frag} {g : G} {H : Hp} {st : Sto} {Q : VK} {kvs : List (Key × PV)} {ws : List (Key × V)} (s : StOk K g H st) (r : RVK K g H kvs ws) (h : okR T K (rV K) g H (.ok (.dct kvs) st) Q E) : ∀ p, H p = none → Q (.ref p) (upd H p (.dK ws)) := fun p hp =>
  okR.finE h (ext_frz s hp) (st_frz s hp) (.dct (.inr rfl) upd_same (r.mono (ext_frz s hp)))
theorem n_dict : SN T X.K E (rDict2 X.K) sDict := by
  intro g H st xs vs Q s l h
  unfold sDict at h
  split at h
  · obtain ⟨v, rfl, r⟩ := one_of l
    split at h
    · rename_i kvs e
      obtain ⟨ys, e1, e2⟩ := Option.bind_eq_some_iff.mp e
      cases r with
      | tup hh ll =>
        cases e1
        obtain ⟨ps, ws, rfl, hp, hr⟩ := pairs_as ll e2
        exact .inr ⟨_, ps, ws, rfl, hh, hp, giveD s hr.merge h⟩
      | lst f hh ll =>
        obtain ⟨a, us, q1, q2, q3⟩ := asL_ok s (.lst f hh ll) e1
        obtain ⟨ps, ws, rfl, hp, hr⟩ := pairs_as q3 e2
        exact .inl ⟨a, ps, ws, by rw [q1], q2, hp, giveD s hr.merge h⟩
      | rol f hh ll =>
        obtain ⟨a, us, q1, q2, q3⟩ := asL_ok s (.rol f hh ll) e1
        obtain ⟨ps, ws, rfl, hp, hr⟩ := pairs_as q3 e2
        exact .inl ⟨a, ps, ws, by rw [q1], q2, hp, giveD s hr.merge h⟩
      | rolK f hh ll =>
        obtain ⟨a, us, q1, q2, q3⟩ := asL_ok s (.rolK f hh ll) e1
        obtain ⟨ps, ws, rfl, hp, hr⟩ := pairs_as q3 e2
        exact .inl ⟨a, ps, ws, by rw [q1], q2, hp, giveD s hr.merge h⟩
      | ref hk =>
        obtain ⟨a, us, q1, q2, q3⟩ := asL_ok s (.ref hk) e1
        obtain ⟨ps, ws, rfl, hp, hr⟩ := pairs_as q3 e2
        exact .inl ⟨a, ps, ws, by rw [q1], q2, hp, giveD s hr.merge h⟩
      | _ => cases e1
    · exact h.elim
  · exact h.elim
/-! ### d.get(k) -/
def isDct (x : PV) (st : Sto) : Bool := (asD st x).isSome
def sGet (x y : PV) (st : Sto) : Res PV := match asD st x, toKey y with
  | some kvs, some k => .ok ((lookK k kvs).getD .non) st
  | _, _ => .bad
def mGet (a b : M) : M := fun env st => (a env st).bind fun x s1 => if isDct x s1 = true then (b env s1).bind fun y s2 => sGet x y s2 else .bad
theorem x_get {k : Nat} {o e : Expr} {m m' : M} {apos cpos : Pos} (hr : Room k X.A) (ho : EX X T E o m) (he : EX X T E e m') (mm : M1 X o "get" apos e cpos) : EX X T E (.Call (.Attribute o "get" apos) [e] [] cpos) (mGet m m') :=
  pe_imp (pe_dget1 (by have := hu65 hr; omega) ho he mm) fun σ H Q ⟨g, st, env, s, en, h⟩ => tv_of s en h fun g1 H1 st1 x v e1 s1 en1 r1 h1 => by
    split at h1
    · rename_i hd
      obtain ⟨kvs, ek⟩ := Option.isSome_iff_exists.mp hd
      obtain ⟨a, ws, rfl, hH, _⟩ := asD_ok s1 r1 ek
      refine ⟨a, rfl, .inl ⟨_, .of hH⟩, ?_⟩
      refine tv_of s1 en1 h1 fun g2 H2 st2 y u e2 s2 en2 r2 h2 => ?_
      unfold sGet at h2
      split at h2
      · rename_i kvs2 kk ek2 hk
        obtain ⟨a2, ws2, q, hH2, l2⟩ := asD_ok s2 (r1.mono e2) ek2
        cases q
        cases toKey_ok r2 hk
        refine ⟨_, DGet.k hH2, ?_⟩
        have lk := lookK_ok kk l2
        split at lk
        · rename_i x ex
          obtain ⟨z, e3, rz⟩ := lk
          rw [ex] at h2
          rw [e3]
          exact okR.fin h2 s2 rz
        · rename_i ex
          rw [ex] at h2
          rw [lk]
          exact okR.fin h2 s2 .non
      · exact h2.elim
    · exact h1.elim
end
end Sim

set_option Elab.async false
set_option linter.all false
set_option maxRecDepth 100000
set_option maxHeartbeats 4000000
namespace Sim
open PySem PySem.Spec PyProof.Rows L2
variable [Tb] [Lm]
/-! ### dict comprehensions -/
def dcGo (t : Tgt) (c : MB) (mk mv : M) (env0 : Lo) : List PV → List (Key × PV) → Sto → Res (List (Key × PV))
  | [], acc, st => .ok acc st
  | x :: xs, acc, st => match t.run x env0 with
    | none => .bad
    | some env1 => (c env1 st).only.bind fun b s1 => if b = true then (mk env1 s1).only.bind fun y s2 => (mv env1 s2).only.bind fun z s3 => match toKey y with
      | some k => dcGo t c mk mv env0 xs (putP acc k z) s3
      | none => .bad
      else dcGo t c mk mv env0 xs acc s1
def mDc (it : iL) (t : Tgt) (c : MB) (mk mv : M) (vs : List Nat) : M := fun env st => (it env st).bind fun xs s1 => if fitL xs then (dcGo t c mk mv (wipeL env vs) xs [] s1).bind fun kvs s2 => .ok (.dct kvs) s2 else .bad
section
variable {T : String → Value} {K : PySem.W.Frag} {E E' : XK}
theorem RVK.len {g : G} {H : Hp} : ∀ {kvs : List (Key × PV)} {ws : List (Key × V)}, RVK K g H kvs ws → kvs.length = ws.length
  | _, _, .nil => rfl
  | _, _, .cons _ l => by simp only [List.length_cons, l.len]
theorem putP_len (kvs : List (Key × PV)) (k : Key) (v : PV) : (putP kvs k v).length ≤ kvs.length + 1 := by
  unfold putP
  split <;> simp
section
variable {g g1 : G} {H H1 : Hp} {D : Addr} {o : HO} {vs : List (Key × V)} {st st1 : Sto}
theorem ext_unK (s : StOk K g H st) (gd : g.P D) (hD : H D = some (.dK vs)) : ExtW g H (g.ungrd D) (upd H D o) :=
  ⟨Nat.le_refl _, fun _ _ => rfl, fun a h => ⟨h, upd_ne fun e => (s.pr D gd).2.1 (e ▸ h)⟩, fun a u tu h => by
    have ne : a ≠ D := fun e => by subst e; rw [hD] at h; cases h; cases tu
    rw [upd_ne ne]; exact h⟩
theorem st_unK (s : StOk K g H st) (gd : g.P D) (hD : H D = some (.dK vs)) : StOk K (g.ungrd D) (upd H D o) st := by
  have x := ext_unK (o := o) s gd hD
  refine ⟨s.len, s.inj, s.sep, fun a h => ?_, fun a h => ⟨?_, (s.pr a h.1).2⟩, fun i m e => (s.at_ i m e).keepW x (upd_ne ((s.pr D gd).2.2 i (s.lt e))), tabs_at s.tb hD (.inr ⟨_, rfl⟩)⟩
  · exact (s.fz a h).of (x.F a h).2
  · exact (s.pr a h.1).1.of (upd_ne h.2)
theorem ext_backK (s1 : StOk K g1 H1 st1) (e : Ext g1 H1 g H) (s : StOk K g H st) (n1 : H1 D = none) (gd : g.P D) (hD : H D = some (.dK vs)) : Ext g1 H1 (g.ungrd D) (upd H D o) := by
  refine ⟨e.toExtW.trans (ext_unK s gd hD), fun a h => ?_⟩
  have ne : a ≠ D := fun z => (s1.pr a h).1.ne (z ▸ n1)
  exact ⟨⟨(e.P a h).1, ne⟩, by rw [upd_ne ne]; exact (e.P a h).2⟩
end
/-- an end of the walk: the dict is given up -/
theorem dc_end {g1 g : G} {H1 H : Hp} {D : Addr} {s1 st : Sto} {acc : List (Key × PV)} {ws : List (Key × V)} {Q : VK} (so1 : StOk K g1 H1 s1) (hD : H1 D = none) (e : Ext g1 H1 g H) (s : StOk K g H st) (hd : H D = some (.dK ws)) (l : RVK K g H acc ws) (nf : ¬ g.F D)
    (ni : ∀ i, i < g.n → g.f i ≠ D) (q : okR T K (rV K) g1 H1 (.ok (.dct acc) st) Q E) : Q (.ref D) H := by
  have key : ∀ g' : G, Ext g1 H1 g' H → StOk K g' H st → RVK K g' H acc ws → ¬ g'.F D → (∀ i, i < g'.n → g'.f i ≠ D) → ¬ g'.P D → Q (.ref D) H := fun g' e s l nf ni np => by
    have x : Ext g' H (g'.frz D) H := ⟨⟨Nat.le_refl _, fun _ _ => rfl, fun a h => ⟨.inl h, rfl⟩, fun _ _ _ h => h⟩, fun a h => ⟨h, rfl⟩⟩
    exact okR.finE q (e.trans x) ⟨s.len, s.inj, fun i m e al h => h.elim (s.sep i m e al) (fun z => ni i (s.lt e) z), fun a h => h.elim (s.fz a) fun z => by subst z; exact ⟨_, hd, nofun⟩, fun a h => ⟨(s.pr a h).1, fun z => z.elim (s.pr a h).2.1 fun z => np (z ▸ h), (s.pr a h).2.2⟩, fun i m e => (s.at_ i m e).keep x rfl, s.tb⟩ (.dct (.inr rfl) hd (l.mono x))
  by_cases hp : g.P D
  · have e2 := ext_backK (o := .dK ws) so1 e s hD hp hd
    have s2 := st_unK (o := .dK ws) s hp hd
    have x2 := ext_unK (o := .dK ws) s hp hd
    rw [upd_id hd] at e2 s2 x2
    exact key _ e2 s2 (l.monoW x2) nf ni (fun z => z.2 rfl)
  · exact key g e s l nf ni hp
theorem dc_core' {wi : TI} {mi : iL} {t : Tgt} {c : MB} {mk mv : M} {vs : List Nat} {tk tv : TE} {tt : TT} (htk : tk = TV T K (fun _ _ _ => False) mk) (htv : tv = TV T K (fun _ _ _ => False) mv) (htt : tt = TB T K (fun _ _ _ => False) c) (hwi : wi = TI' T K E mi) (hsl : ∀ i ∈ t.slots, i ∈ vs) (hlm : ∀ v ∈ vs, Lm.at_ v = none)
    {σ : L2.St} {H : Hp} {Q : VK} (h : TV T K E (mDc mi t c mk mv vs) σ H Q) : tDc wi (tgR K t) tt tk tv vs σ H Q := by
  subst htk htv htt hwi
  obtain ⟨g, st, env, s, en, h⟩ := h
  refine ⟨g, st, env, s, en, h.step.imp fun J H1 ⟨g1, s1, xs, e1, so1, wk, h1⟩ => ?_⟩
  have en1 := en.mono e1
  intro D hD
  split at h1
  · rename_i hf
    have hlen : xs.length ≤ sizeLine := fitL_ok hf
    refine ⟨fun i n H => i + n = xs.length ∧ ∃ g st acc ws, Ext g1 H1 g H ∧ StOk K g H st ∧ H D = some (.dK ws) ∧ RVK K g H acc ws ∧ ¬ g.F D ∧ (∀ i, i < g.n → g.f i ≠ D) ∧ acc.length ≤ i ∧
      okR T K (rV K) g1 H1 ((dcGo t c mk mv (wipeL env vs) (xs.drop i) acc st).bind fun kvs s2 => .ok (.dct kvs) s2) Q E, ⟨xs.length, by omega, g1, s1, [], [], ext_new so1 hD, st_new so1 hD, upd_same, .nil, fun z => (so1.fz D z).ne hD, fun i hi z => ?_, Nat.zero_le _, by simpa using h1⟩, ?_⟩
    · have hi' : i < s1.length := by rw [← so1.len]; exact hi
      exact (so1.at_ i s1[i] (List.getElem?_eq_getElem hi')).there (z ▸ hD)
    · rintro i n H ⟨hn, g, st, acc, ws, e, s, hd, l, nf, ni, hacc, h⟩
      obtain ⟨w1, w2⟩ := wk g H st e s i
      by_cases hlt : i < xs.length
      · have hx : xs[i]? = some xs[i] := List.getElem?_eq_getElem hlt
        have hdr : xs.drop i = xs[i] :: xs.drop (i + 1) := List.drop_eq_getElem_cons hlt
        rw [hdr] at h
        obtain ⟨go, _⟩ := w2 _ hx
        refine .inr ⟨go, fun H' => ∃ g st acc ws, Ext g1 H1 g H' ∧ StOk K g H' st ∧ H' D = some (.dK ws) ∧ RVK K g H' acc ws ∧ ¬ g.F D ∧ (∀ i, i < g.n → g.f i ≠ D) ∧ acc.length ≤ i + 1 ∧
          okR T K (rV K) g1 H1 ((dcGo t c mk mv (wipeL env vs) (xs.drop (i + 1)) acc st).bind fun kvs s2 => .ok (.dct kvs) s2) Q E, fun H' w => ⟨n - 1, by omega, by omega, w⟩, fun v H' y => ?_⟩
        have sg : StOk K (g.grd D) H st := st_grd s ⟨_, hd, nofun⟩ nf ni
        have eg : Ext g1 H1 (g.grd D) H := e.trans ext_grd
        obtain ⟨_, w4⟩ := wk (g.grd D) H st eg sg i
        obtain ⟨e3, s3, r3⟩ := (w4 _ hx).2 v H' y
        have gD3 : (g.grd D).P D := .inr rfl
        simp only [dcGo] at h
        cases q2 : t.run xs[i] (wipeL env vs) with
        | none => rw [q2] at h; exact h.elim
        | some env1 =>
          rw [q2] at h
          dsimp only at h
          refine tg_ok ((en1.mono (eg.trans e3)).wipe vs hlm) r3 q2 fun σ2 en4 wp => ⟨?_, g.grd D, st, env1, s3, en4, ?_⟩
          · rw [wp vs hsl]
            have : ∀ us : List Nat, (∀ u ∈ us, u ∈ vs) → wipe (wipe σ vs) us = wipe σ vs := by
              intro us
              induction us with
              | nil => intro _; rfl
              | cons u us ih =>
                intro hu
                show (wipe (wipe σ vs) us).set u none = _
                rw [ih fun w hw => hu w (List.mem_cons_of_mem _ hw)]
                have idm : ∀ (ws : List Nat), u ∈ ws → (wipe σ ws).set u none = wipe σ ws := by
                  intro ws
                  induction ws with
                  | nil => intro z; cases z
                  | cons a ws ih2 =>
                    intro z
                    show ((wipe σ ws).set a none).set u none = (wipe σ ws).set a none
                    by_cases ea : a = u
                    · subst ea; rw [List.set_set]
                    · rw [List.set_comm _ _ ea, ih2 ((List.mem_cons.mp z).resolve_left fun q => ea q.symm)]
                exact idm vs (hu u List.mem_cons_self)
            exact this vs fun _ hu => hu
          · have hA : okR T K (rV K) g1 H1 ((c env1 st).only.bind fun b s1 => ((if b = true then (mk env1 s1).only.bind fun y s2 => (mv env1 s2).only.bind fun z s3 => match toKey y with
                | some k => dcGo t c mk mv (wipeL env vs) (xs.drop (i + 1)) (putP acc k z) s3
                | none => .bad
                else dcGo t c mk mv (wipeL env vs) (xs.drop (i + 1)) acc s1) : Res (List (Key × PV))).bind fun kvs s2 => .ok (.dct kvs) s2) Q E := by
              cases qc : c env1 st with
              | ok b s1 => rw [qc] at h; exact h
              | exc n fs s1 => rw [qc] at h; exact h
              | bad => rw [qc] at h; exact h
            have ge3 : Ext g1 H1 (g.grd D) H' := eg.trans e3
            refine (hA.stepB (R' := rB) ge3).imp fun b H4 ⟨g4, st4, b', e4, s4, eb, h4⟩ => ?_
            subst eb
            have gD4 : g4.P D := (e4.P D gD3).1
            have hD4 : H4 D = some (.dK ws) := by rw [(e4.P D gD3).2, (e3.P D gD3).2]; exact hd
            have l4 : RVK K g4 H4 acc ws := (l.mono (ext_grd.trans e3)).mono e4
            cases b' with
            | false =>
              rw [if_neg Bool.false_ne_true] at h4 ⊢
              have e5 := ext_backK (o := .dK ws) so1 (ge3.trans e4) s4 hD gD4 hD4
              have s5 := st_unK (o := .dK ws) s4 gD4 hD4
              have x5 := ext_unK (o := .dK ws) s4 gD4 hD4
              rw [upd_id hD4] at e5 s5 x5
              exact ⟨g4.ungrd D, st4, acc, ws, e5, s5, hD4, l4.monoW x5, (s4.pr D gD4).2.1, (s4.pr D gD4).2.2, by omega, h4⟩
            | true =>
              rw [if_pos rfl] at h4 ⊢
              refine ⟨g4, st4, env1, s4, en4.mono e4, ?_⟩
              have hB : okR T K (rV K) g1 H1 ((mk env1 st4).only.bind fun y s2 => ((mv env1 s2).only.bind fun z s3 => (match toKey y with
                | some k => dcGo t c mk mv (wipeL env vs) (xs.drop (i + 1)) (putP acc k z) s3
                | none => .bad : Res (List (Key × PV))).bind fun kvs s2 => .ok (.dct kvs) s2)) Q E := by
                cases qm : mk env1 st4 with
                | ok y s2 =>
                  rw [qm] at h4
                  simp only [Res.only, Res.bind_ok] at h4 ⊢
                  cases ql : mv env1 s2 with
                  | ok z s3 => rw [ql] at h4; exact h4
                  | exc n fs s3 => rw [ql] at h4; exact h4
                  | bad => rw [ql] at h4; exact h4
                | exc n fs s1 => rw [qm] at h4; exact h4
                | bad => rw [qm] at h4; exact h4
              refine (hB.stepB (R' := rV K) (ge3.trans e4)).imp fun y H5 ⟨g5, st5, yy, e5, s5, ry, h5⟩ => ?_
              refine ⟨g5, st5, env1, s5, (en4.mono e4).mono e5, ?_⟩
              refine (h5.stepB (R' := rV K) ((ge3.trans e4).trans e5)).imp fun z H6 ⟨g6, st6, zz, e6, s6, rz, h6⟩ => ?_
              have gD6 : g6.P D := (e6.P D (e5.P D gD4).1).1
              have hD6 : H6 D = some (.dK ws) := by rw [(e6.P D (e5.P D gD4).1).2, (e5.P D gD4).2]; exact hD4
              cases hk : toKey yy with
              | none => rw [hk] at h6; exact h6.elim
              | some k =>
                rw [hk] at h6
                have x7 := ext_unK (o := .dK (putK ws k z)) s6 gD6 hD6
                refine ⟨ws, k, toKey_ok (ry.mono e6) hk, hD6, by rw [← l.len]; omega, g6.ungrd D, st6, putP acc k zz, putK ws k z, ext_backK so1 (((ge3.trans e4).trans e5).trans e6) s6 hD gD6 hD6, st_unK s6 gD6 hD6, upd_same, ?_, (s6.pr D gD6).2.1, (s6.pr D gD6).2.2, ?_, h6⟩
                · exact (RVK.put rz k ((l4.mono e5).mono e6)).monoW x7
                · have := putP_len acc k zz; omega
      · have hdr : xs.drop i = [] := List.drop_eq_nil_of_le (by omega)
        rw [hdr] at h
        exact .inl ⟨w1 (by omega), dc_end so1 hD e s hd l nf ni (by simpa [dcGo] using h)⟩
  · exact h1.elim
end
section
variable {X : Cx} {T : String → Value} {E : XK} {kx vx tg iter : Expr} {ifs : List Expr} {scope : Scope} {own : List (Str × Nat)} {pos : Pos} {mi : iL} {t : Tgt} {c : MB} {mk mv : M}
theorem x_dc (hc : X.calm = true) (hN : X.N.Nodup) (hi : IX X T E tg iter mi) (ok : BlkOk X.N X.env.scope scope own)
    (hg : ∀ (s : Shared) (H : Hp) (C : Addr) (cl : List (Str × Addr)) (fp : List Addr), GX (X.blk s H scope (compEnvC scope cl C X.env) fp) tg t) (ht : ∀ (s : Shared) (H : Hp) (C : Addr) (cl : List (Str × Addr)) (fp : List Addr), CX' (X.blk s H scope (compEnvC scope cl C X.env) fp) T ifs c)
    (hk : ∀ (s : Shared) (H : Hp) (C : Addr) (cl : List (Str × Addr)) (fp : List Addr), EX (X.blk s H scope (compEnvC scope cl C X.env) fp) T (fun _ _ _ => False) kx mk)
    (he : ∀ (s : Shared) (H : Hp) (C : Addr) (cl : List (Str × Addr)) (fp : List Addr), EX (X.blk s H scope (compEnvC scope cl C X.env) fp) T (fun _ _ _ => False) vx mv) (hsl : ∀ i ∈ t.slots, i ∈ own.map (·.2)) (hs : ∀ x, foldedSetIterable iter X.env x = pure x := by intro _; rfl) (hlm : ∀ v ∈ own.map (·.2), Lm.at_ v = none := by first | exact fun _ _ => rfl | decide) :
    EX X T E (.DictComp kx vx [⟨tg, iter, ifs, 0⟩] scope pos) (mDc mi t c mk mv (own.map (·.2))) :=
  pe_imp (pe_dc hc hN hi ok hg ht hk he hs) fun σ H Q h => dc_core' rfl rfl rfl rfl hsl hlm h
/-! ### -e -/
def sNeg : Se1 := fun x st => match x with
  | .int i => .ok (.int (-i)) st
  | _ => .bad
theorem s_neg : S1 T X.K E (rU fun i => .int (-i)) sNeg := by
  intro g H st x v Q s r h
  unfold sNeg at h
  split at h
  · cases r
    exact ⟨_, rfl, okR.fin h s (.int _)⟩
  · exact h.elim
/-! ### sorted of ints -/
def insI (x : Int) : List Int → List Int
  | [] => [x]
  | y :: ys => if x ≤ y then x :: y :: ys else y :: insI x ys
def sortI (l : List Int) : List Int := l.foldr insI []
theorem insI_perm (x : Int) : ∀ l : List Int, (insI x l).Perm (x :: l)
  | [] => .refl _
  | y :: ys => by
    unfold insI
    split
    · exact .refl _
    · exact ((insI_perm x ys).cons y).trans (.swap ..)
theorem sortI_perm : ∀ l : List Int, (sortI l).Perm l
  | [] => .refl _
  | x :: l => (insI_perm x _).trans ((sortI_perm l).cons x)
theorem insI_sorted (x : Int) : ∀ {l : List Int}, l.Pairwise (· ≤ ·) → (insI x l).Pairwise (· ≤ ·)
  | [], _ => by simp [insI]
  | y :: ys, h => by
    rw [List.pairwise_cons] at h
    unfold insI
    split
    · rename_i hx
      refine List.pairwise_cons.mpr ⟨fun z hz => ?_, List.pairwise_cons.mpr h⟩
      rcases List.mem_cons.mp hz with rfl | hz
      · exact hx
      · exact Int.le_trans hx (h.1 z hz)
    · rename_i hx
      refine List.pairwise_cons.mpr ⟨fun z hz => ?_, insI_sorted x h.2⟩
      rcases List.mem_cons.mp ((insI_perm x ys).mem_iff.mp hz) with rfl | hz
      · omega
      · exact h.1 z hz
theorem sortI_sorted : ∀ l : List Int, (sortI l).Pairwise (· ≤ ·)
  | [] => .nil
  | x :: l => insI_sorted x (sortI_sorted l)
theorem sorted_one {a b : List Int} (p : a.Perm b) (ha : a.Pairwise (· ≤ ·)) (hb : b.Pairwise (· ≤ ·)) : a = b :=
  p.eq_of_pairwise (fun x y _ _ h1 h2 => Int.le_antisymm h1 h2) ha hb
def sSortI : SeN := fun xs st => match xs with
  | [x] => match (asL st x).bind asIs with
    | some ns => .ok (.lst ((sortI ns).map .int)) st
    | none => .bad
  | _ => .bad
def sSortIM : SeN := fun xs st => match xs with
  | [x] => match (asL st x).bind asIs with
    | some ns => .ok (.ref st.length) (st ++ [.lst ((sortI ns).map .int)])
    | none => .bad
  | _ => .bad
theorem n_sortI : SN T X.K E (rSortedI X.K) sSortI := by
  intro g H st xs vs Q s l h
  unfold sSortI at h
  split at h
  · obtain ⟨v, rfl, r⟩ := one_of l
    split at h
    · rename_i ns e
      obtain ⟨ys, e1, e2⟩ := Option.bind_eq_some_iff.mp e
      obtain ⟨a, ws, rfl, hq, l2⟩ := asL_ok s r e1
      cases asIs_ok e2
      cases l2.ints
      refine ⟨a, ns, rfl, hq, fun ns' p hp hs hn => ?_⟩
      cases sorted_one (hp.trans (sortI_perm ns).symm) hs (sortI_sorted ns)
      exact giveF s (.ofInts _) h p hn
    · exact h.elim
  · exact h.elim
theorem n_sortIM : SN T X.K E (rSortedI X.K) sSortIM := by
  intro g H st xs vs Q s l h
  unfold sSortIM at h
  split at h
  · obtain ⟨v, rfl, r⟩ := one_of l
    split at h
    · rename_i ns e
      obtain ⟨ys, e1, e2⟩ := Option.bind_eq_some_iff.mp e
      obtain ⟨a, ws, rfl, hq, l2⟩ := asL_ok s r e1
      cases asIs_ok e2
      cases l2.ints
      refine ⟨a, ns, rfl, hq, fun ns' p hp hs hn => ?_⟩
      cases sorted_one (hp.trans (sortI_perm ns).symm) hs (sortI_sorted ns)
      exact giveM s (.ofInts _) h p hn
    · exact h.elim
  · exact h.elim
end
/-! ### a def whose new lists may be changed by who called it -/
def defR (n : Nat) (b : MS) : MF := fun xs st => match b (xs.map some ++ List.replicate (n - xs.length) none) st with
  | .rt x s => .ok x s
  | .nx _ s => .ok .non s
  | _ => .bad
omit [Lm] in
theorem y_defR {T : String → Value} {P : Program} {w : World} {K : PySem.W.Frag} {mg : Str → Option Value} {base : Heap} {k : Nat} {f : Addr} {x qual : Str} {st : Stmt} {fd : FuncData} {N ps : List Str} {b : MS} (F : Fun K x qual st f fd) (S : FnScope N ps (defScope st))
    (hbody : ∀ (cdv : Value) (A : Around) (outer : List PySem.Env) (s : Shared) (H : Hp) (E : XK), Gd (A.deeper (envOfC qual (defScope st) s.heap.objs.size f cdv)) → Room k (A.deeper (envOfC qual (defScope st) s.heap.objs.size f cdv)) →
      letI : Lm := lm0; SXs (cxOf CX0 P w K mg base N qual (defScope st) f cdv A outer s H E).nox T E0 (defBody st) b) :
    FnG P w K mg base CX0 (k + 1) f fd ps (spM T K ps.length (defR N.length b)) := by
  letI : Lm := lm0
  refine fnG_of F S (fun vs H Q E h => h.1) fun cdv A outer s H vs Q E gd hr h => ?_
  obtain ⟨hl, g, st', xs, so, l, h⟩ := h
  refine ⟨_, (hbody cdv A outer s H E gd hr).nox, g, st', _, so, env_start (N := N) l, ?_⟩
  unfold defR at h
  show okS T K E0 g H (b (xs.map some ++ List.replicate (N.length - xs.length) none) st') _
  cases q : b (xs.map some ++ List.replicate (N.length - xs.length) none) st' with
  | rt y s => rw [q] at h; exact fun g' H' v e s1 r => h g' H' v e s1 r
  | nx e s => rw [q] at h; exact fun g' H' σ' e s1 _ => h g' H' .non e s1 .non
  | bk e s => rw [q] at h; exact h.elim
  | ct e s => rw [q] at h; exact h.elim
  | exc n fs s => rw [q] at h; exact h.elim
  | bad => rw [q] at h; exact h.elim
end Sim

set_option Elab.async false
set_option linter.all false
set_option maxRecDepth 100000
set_option maxHeartbeats 4000000
namespace Sim
open PySem PySem.Spec PyProof.Rows L2
/-! ### what a mirror's run leads to -/
def wR {α : Type} (r : Res α) (Q : α → Sto → Prop) : Prop := match r with
  | .ok a s => Q a s
  | _ => False
def wO (o : Out) (N : Lo → Sto → Prop) (R : PV → Sto → Prop) (B C : Lo → Sto → Prop) : Prop := match o with
  | .nx e s => N e s
  | .rt v s => R v s
  | .bk e s => B e s
  | .ct e s => C e s
  | _ => False
section
variable {α β : Type} {Q Q' : α → Sto → Prop} {N N' : Lo → Sto → Prop} {R R' : PV → Sto → Prop} {B C : Lo → Sto → Prop} {env : Lo} {st : Sto}
theorem wR.imp {r : Res α} (h : wR r Q) (i : ∀ a s, Q a s → Q' a s) : wR r Q' := by
  cases r with
  | ok a s => exact i a s h
  | exc n fs s => exact h
  | bad => exact h
theorem wR.get {r : Res α} (h : wR r Q) : ∃ a s, r = .ok a s ∧ Q a s := by
  cases r with
  | ok a s => exact ⟨a, s, rfl, h⟩
  | exc n fs s => exact h.elim
  | bad => exact h.elim
theorem wR_eq {r : Res α} {a : α} {s : Sto} (h : r = .ok a s) (q : Q a s) : wR r Q := by rw [h]; exact q
theorem wR_ok (a : α) (s : Sto) : wR (.ok a s) Q = Q a s := rfl
theorem wR_bad : wR (.bad : Res α) Q = False := rfl
theorem wR_bind {r : Res β} {k : β → Sto → Res α} : wR (r.bind k) Q = wR r (fun a s => wR (k a s) Q) := by cases r <;> rfl
theorem wR_ite (p : Prop) [Decidable p] (a b : Res α) : wR (if p then a else b) Q = if p then wR a Q else wR b Q := by split <;> rfl
theorem wO_ite (p : Prop) [Decidable p] (a b : Out) : wO (if p then a else b) N R B C = if p then wO a N R B C else wO b N R B C := by split <;> rfl
theorem wO.imp {o : Out} (h : wO o N R B C) (n : ∀ e s, N e s → N' e s) (r : ∀ v s, R v s → R' v s) : wO o N' R' B C := by
  cases o with
  | nx e s => exact n e s h
  | rt v s => exact r v s h
  | bk e s => exact h
  | ct e s => exact h
  | exc n fs s => exact h
  | bad => exact h
theorem wO_nx (e : Lo) (s : Sto) : wO (.nx e s) N R B C = N e s := rfl
theorem wO_seq {a b : MS} : wO (cSeq a b env st) N R B C = wO (a env st) (fun e s => wO (b e s) N R B C) R B C := by
  unfold cSeq; cases a env st <;> rfl
theorem wO_nil : wO (cNil env st) N R B C = N env st := rfl
theorem wO_break : wO (cBreak env st) N R B C = B env st := rfl
theorem wO_cont : wO (cCont env st) N R B C = C env st := rfl
theorem wO_retN : wO (cRetN env st) N R B C = R .non st := rfl
theorem wO_set1 {i : Nat} {m : M} : wO (cSet (.one i) m env st) N R B C = wR (m env st) (fun x s => N (env.set i (some x)) s) := by
  unfold cSet; cases m env st <;> rfl
theorem wO_setMany {is : List Nat} {m : M} : wO (cSet (.many is) m env st) N R B C = wR (m env st) (fun x s => ∃ e, (Tgt.many is).run x env = some e ∧ N e s) := by
  unfold cSet
  cases m env st with
  | ok x s =>
    simp only [wR]
    cases q : (Tgt.many is).run x env with
    | none => simp [wO]
    | some e => simp [wO]
  | _ => rfl
theorem wO_expr {m : M} : wO (cExpr m env st) N R B C = wR (m env st) (fun _ s => N env s) := by
  unfold cExpr; cases m env st <;> rfl
theorem wO_ret {m : M} : wO (cRet m env st) N R B C = wR (m env st) R := by
  unfold cRet; cases m env st <;> rfl
theorem wO_if {c : MB} {a b : MS} : wO (cIf c a b env st) N R B C = wR (c env st) (fun k s => if k = true then wO (a env s) N R B C else wO (b env s) N R B C) := by
  unfold cIf
  cases c env st with
  | ok k s => simp only [wR]; split <;> rfl
  | _ => rfl
theorem wO_par {i j : Nat} {ms : ML} : wO (cPar i j ms env st) N R B C = wR (ms env st) (fun xs s => ∃ x y, xs = [x, y] ∧ N ((env.set i (some x)).set j (some y)) s) := by
  unfold cPar
  cases ms env st with
  | ok xs s =>
    simp only [wR]
    match xs with
    | [] => simp [wO]
    | [_] => simp [wO]
    | [x, y] =>
      simp only [wO]
      exact propext ⟨fun h => ⟨x, y, rfl, h⟩, fun ⟨a, b, e, h⟩ => by cases e; exact h⟩
    | _ :: _ :: _ :: _ => simp [wO]
  | _ => rfl
theorem wO_for {it : iL} {t : Tgt} {body : MS} : wO (cFor it t body env st) N R B C = wR (it env st) (fun xs s => wO (forGo t body xs env s) N R B C) := by
  unfold cFor; cases it env st <;> rfl
theorem wO_aug {f : Int → Int → Int} {i : Nat} {m : M} {a : Int} (h : env[i]? = some (some (.int a))) : wO (cAug f i m env st) N R B C = wR (m env st) (fun y s => ∃ b, y = .int b ∧ N (env.set i (some (.int (f a b)))) s) := by
  unfold cAug
  rw [h]
  cases m env st with
  | ok y s => simp only [wR]; cases y <;> simp [wO]
  | _ => rfl
/-- what holds between two statements -/
theorem w_cut {a b : MS} (M : Lo → Sto → Prop) (h : wO (a env st) M R B C) (h2 : ∀ e s, M e s → wO (b e s) N R B C) : wO (cSeq a b env st) N R B C := by
  rw [wO_seq]
  exact h.imp h2 fun _ _ q => q
theorem w_cut2 {a b c : MS} (M : Lo → Sto → Prop) (h : wO (cSeq a b env st) M R B C) (h2 : ∀ e s, M e s → wO (c e s) N R B C) : wO (cSeq a (cSeq b c) env st) N R B C := by
  rw [wO_seq] at h ⊢
  exact h.imp (fun e s q => by rw [wO_seq]; exact q.imp h2 fun _ _ q => q) fun _ _ q => q
theorem w_cut3 {a b c d : MS} (M : Lo → Sto → Prop) (h : wO (cSeq a (cSeq b c) env st) M R B C) (h2 : ∀ e s, M e s → wO (d e s) N R B C) : wO (cSeq a (cSeq b (cSeq c d)) env st) N R B C := by
  rw [wO_seq] at h ⊢
  exact h.imp (fun e s q => w_cut2 M q h2) fun _ _ q => q
theorem w_cut4 {a b c d f : MS} (M : Lo → Sto → Prop) (h : wO (cSeq a (cSeq b (cSeq c d)) env st) M R B C) (h2 : ∀ e s, M e s → wO (f e s) N R B C) : wO (cSeq a (cSeq b (cSeq c (cSeq d f))) env st) N R B C := by
  rw [wO_seq] at h ⊢
  exact h.imp (fun e s q => w_cut3 M q h2) fun _ _ q => q
theorem w_cut5 {a b c d f g : MS} (M : Lo → Sto → Prop) (h : wO (cSeq a (cSeq b (cSeq c (cSeq d f))) env st) M R B C) (h2 : ∀ e s, M e s → wO (g e s) N R B C) : wO (cSeq a (cSeq b (cSeq c (cSeq d (cSeq f g)))) env st) N R B C := by
  rw [wO_seq] at h ⊢
  exact h.imp (fun e s q => w_cut4 M q h2) fun _ _ q => q
/-- a for, by what holds between two turns -/
theorem w_forGo {t : Tgt} {body : MS} (I : List PV → Lo → Sto → Prop) (step : ∀ x xs e s, I (x :: xs) e s → ∃ e1, t.run x e = some e1 ∧ wO (body e1 s) (I xs) R N (I xs)) (fin : ∀ e s, I [] e s → N e s) :
    ∀ {xs : List PV} {e : Lo} {s : Sto}, I xs e s → wO (forGo t body xs e s) N R B C
  | [], e, s, h => fin e s h
  | x :: xs, e, s, h => by
    obtain ⟨e1, q, w⟩ := step x xs e s h
    simp only [forGo, q]
    cases z : body e1 s with
    | nx e s => rw [z] at w; exact w_forGo I step fin w
    | ct e s => rw [z] at w; exact w_forGo I step fin w
    | bk e s => rw [z] at w; exact w
    | rt v s => rw [z] at w; exact w
    | exc n fs s => rw [z] at w; exact w.elim
    | bad => rw [z] at w; exact w.elim
/-- a while, by a number that falls -/
theorem w_whGo {c : MB} {body : MS} (I : Nat → Lo → Sto → Prop) (step : ∀ k e s, I k e s → wR (c e s) (fun b s1 => if b = true then wO (body e s1) (fun e' s' => ∃ j, j < k ∧ I j e' s') R N (fun e' s' => ∃ j, j < k ∧ I j e' s') else N e s1)) :
    ∀ {n k : Nat} {e : Lo} {s : Sto}, k < n → I k e s → wO (whGo c body n e s) N R B C
  | 0, k, _, _, hn, _ => by omega
  | n + 1, k, e, s, hn, h => by
    have w := step k e s h
    unfold whGo
    cases z : c e s with
    | ok b s1 =>
      rw [z] at w
      cases b with
      | false => exact w
      | true =>
        have w : wO (body e s1) (fun e' s' => ∃ j, j < k ∧ I j e' s') R N (fun e' s' => ∃ j, j < k ∧ I j e' s') := w
        dsimp only
        cases y : body e s1 with
        | nx e2 s2 => rw [y] at w; obtain ⟨j, hj, h2⟩ := w; exact w_whGo I step (by omega) h2
        | ct e2 s2 => rw [y] at w; obtain ⟨j, hj, h2⟩ := w; exact w_whGo I step (by omega) h2
        | bk e2 s2 => rw [y] at w; exact w
        | rt v s2 => rw [y] at w; exact w
        | exc n fs s2 => rw [y] at w; exact w.elim
        | bad => rw [y] at w; exact w.elim
    | exc n fs s1 => rw [z] at w; exact w.elim
    | bad => rw [z] at w; exact w.elim
/-- a comprehension: each item its own value, something kept of the store -/
theorem w_lcGo {t : Tgt} {m : M} {env0 : Lo} {Q : List PV → Sto → Prop} (P : PV → PV → Prop) (I : Sto → Prop) : ∀ {xs : List PV} {s : Sto}, (∀ x ∈ xs, ∀ s, I s → ∃ e, t.run x env0 = some e ∧ wR (m e s) (fun y s2 => P x y ∧ I s2)) → I s →
    (∀ ys s2, ys.length = xs.length → (∀ p ∈ xs.zip ys, P p.1 p.2) → I s2 → Q ys s2) → wR (lcGo t bYes m env0 xs s) Q
  | [], s, _, h, q => q [] s rfl (by simp) h
  | x :: xs, s, st, h, q => by
    obtain ⟨e, r, w⟩ := st x (List.mem_cons_self ..) s h
    obtain ⟨y, s2, e2, hp, hi⟩ := w.get
    simp only [lcGo, r, bYes, Res.only, Res.bind_ok, if_true, e2]
    rw [wR_bind]
    refine w_lcGo P I (fun z hz => st z (List.mem_cons_of_mem _ hz)) hi fun ys s3 hl hz hi3 => ?_
    refine q (y :: ys) s3 (by simp [hl]) (fun p hp2 => ?_) hi3
    rw [List.zip_cons_cons] at hp2
    rcases List.mem_cons.mp hp2 with rfl | hp2
    · exact hp
    · exact hz p hp2
/-- .. a guard and a value that are told -/
theorem lcGo_fm {t : Tgt} {c : MB} {m : M} {env0 : Lo} {st : Sto} (p : PV → Bool) (g : PV → PV) : ∀ {xs : List PV}, (∀ x ∈ xs, ∃ e, t.run x env0 = some e ∧ c e st = .ok (p x) st ∧ (p x = true → m e st = .ok (g x) st)) → lcGo t c m env0 xs st = .ok ((xs.filter p).map g) st
  | [], _ => rfl
  | x :: xs, h => by
    obtain ⟨e, r, c1, m1⟩ := h x (List.mem_cons_self ..)
    have ih := lcGo_fm p g fun y hy => h y (List.mem_cons_of_mem _ hy)
    simp only [lcGo, r, c1, Res.only, Res.bind_ok]
    cases hp : p x with
    | true => simp only [if_true, m1 hp, Res.bind_ok, ih, List.filter_cons, hp, List.map_cons]
    | false => simp only [Bool.false_eq_true, if_false, ih, List.filter_cons, hp]
theorem lcGo_maps {t : Tgt} {m : M} {env0 : Lo} {st : Sto} (g : PV → PV) {xs : List PV} (h : ∀ x ∈ xs, ∃ e, t.run x env0 = some e ∧ m e st = .ok (g x) st) : lcGo t bYes m env0 xs st = .ok (xs.map g) st := by
  have := lcGo_fm (c := bYes) (fun _ => true) g (t := t) (m := m) (env0 := env0) (st := st) (xs := xs) fun x hx => by
    obtain ⟨e, r, q⟩ := h x hx
    exact ⟨e, r, rfl, fun _ => q⟩
  rw [this, List.filter_eq_self.mpr (fun _ _ => rfl)]
theorem lcGo_rel {α : Type} {t : Tgt} {m : M} {env0 : Lo} {st : Sto} (f g : α → PV) : ∀ (l : List α), (∀ a ∈ l, ∃ e, t.run (f a) env0 = some e ∧ m e st = .ok (g a) st) → lcGo t bYes m env0 (l.map f) st = .ok (l.map g) st
  | [], _ => rfl
  | a :: l, h => by
    obtain ⟨e, r, q⟩ := h a (List.mem_cons_self ..)
    have ih := lcGo_rel f g l fun b hb => h b (List.mem_cons_of_mem _ hb)
    simp only [List.map_cons, lcGo, r, bYes, Res.only, Res.bind_ok, if_true, q, ih]
theorem w_defM {n : Nat} {b : MS} {xs : List PV} {Q : PV → Sto → Prop} (h : wO (b (xs.map some ++ List.replicate (n - xs.length) none) st) (fun _ s => wR (gc st .non s) Q) (fun v s => wR (gc st v s) Q) (fun _ _ => False) (fun _ _ => False)) : wR (defM n b xs st) Q := by
  unfold defM
  cases z : b (xs.map some ++ List.replicate (n - xs.length) none) st with
  | nx e s => rw [z] at h; exact h
  | rt e s => rw [z] at h; exact h
  | bk e s => rw [z] at h; exact h.elim
  | ct e s => rw [z] at h; exact h.elim
  | exc n fs s => rw [z] at h; exact h.elim
  | bad => rw [z] at h; exact h.elim
theorem w_defR {n : Nat} {b : MS} {xs : List PV} {Q : PV → Sto → Prop} (h : wO (b (xs.map some ++ List.replicate (n - xs.length) none) st) (fun _ s => Q .non s) Q (fun _ _ => False) (fun _ _ => False)) : wR (defR n b xs st) Q := by
  unfold defR
  cases z : b (xs.map some ++ List.replicate (n - xs.length) none) st with
  | nx e s => rw [z] at h; exact h
  | rt e s => rw [z] at h; exact h
  | bk e s => rw [z] at h; exact h.elim
  | ct e s => rw [z] at h; exact h.elim
  | exc n fs s => rw [z] at h; exact h.elim
  | bad => rw [z] at h; exact h.elim
end
/-! ### what is dropped at the end of a def -/
theorem gcV_low {n : Nat} {s : Sto} {d : Nat} {x : PV} (h : low n x = true) : gcV n s d x = some x := by
  cases d <;> simp only [gcV, h, if_true]
/-- nothing older was changed, the value holds nothing newer -/
theorem gc_keep {st t : Sto} {x : PV} (h : low st.length x = true) : gc st x (st ++ t) = .ok x st := by
  have e : (st ++ t).take st.length = st := by simp
  unfold gc
  simp only [gcV_low h, e]
  rw [okOld_of st.length (Nat.le_refl _) fun i a q => .inl q]
  simp
theorem mapO_id {n d : Nat} {s : Sto} : ∀ {xs : List PV}, lows n xs = true → mapO (gcV n s d) xs = some xs
  | [], _ => rfl
  | x :: xs, h => by
    simp only [lows, Bool.and_eq_true] at h
    simp only [mapO, gcV_low h.1, mapO_id h.2]
theorem gcV_ref {n d k : Nat} {s : Sto} {xs : List PV} (h : n ≤ k) (e : s[k]? = some (.lst xs)) (l : lows n xs = true) : gcV n s (d + 1) (.ref k) = some (.lst xs) := by
  have e2 : ¬ low n (.ref k) = true := by simp [low]; omega
  rw [gcV, if_neg e2]
  simp only [e]
  rw [mapO_id l]; rfl
/-- a new list is handed back -/
theorem gc_list {st t : Sto} {k : Nat} {xs : List PV} (hk : st.length ≤ k) (e : (st ++ t)[k]? = some (.lst xs)) (h : lows st.length xs = true) : gc st (.ref k) (st ++ t) = .ok (.lst xs) st := by
  have e1 : (st ++ t).take st.length = st := by simp
  unfold gc
  simp only [gcV_ref hk e h, e1]
  rw [okOld_of st.length (Nat.le_refl _) fun i a q => .inl q]
  simp
/-! ### the store with one int in a list, drawn from -/
def Dr (k : Nat) (st : Sto) : Prop := ∃ a : Int, st[k]? = some (.lst [.int a])
def Up (k : Nat) (st s : Sto) : Prop := ∃ a : Int, s = st.set k (.lst [.int a])
theorem Dr.lt {k : Nat} {st : Sto} (h : Dr k st) : k < st.length := let ⟨_, e⟩ := h; (List.getElem?_eq_some_iff.mp e).1
theorem Dr.up {k : Nat} {st : Sto} (h : Dr k st) : Up k st st := by
  obtain ⟨a, e⟩ := h
  exact ⟨a, (set_same e).symm⟩
theorem Up.len {k : Nat} {st s : Sto} (h : Up k st s) : s.length = st.length := by
  obtain ⟨a, rfl⟩ := h; simp
theorem Up.dr {k : Nat} {st s : Sto} (h : Up k st s) (hk : k < st.length) : Dr k s := by
  obtain ⟨a, rfl⟩ := h; exact ⟨a, by simp [hk]⟩
theorem Up.trans {k : Nat} {st s s' : Sto} (h : Up k st s) (h' : Up k s s') : Up k st s' := by
  obtain ⟨a, rfl⟩ := h; obtain ⟨b, rfl⟩ := h'
  exact ⟨b, by simp⟩
theorem Up.split {k : Nat} {st t s : Sto} (h : Up k (st ++ t) s) (hk : k < st.length) : ∃ s1, Up k st s1 ∧ s = s1 ++ t := by
  obtain ⟨a, rfl⟩ := h
  exact ⟨st.set k (.lst [.int a]), ⟨a, rfl⟩, by rw [List.set_append_left _ _ hk]⟩
theorem Up.app {k : Nat} {st s t : Sto} (h : Up k st s) (hk : k < st.length) : Up k (st ++ t) (s ++ t) := by
  obtain ⟨a, rfl⟩ := h
  exact ⟨a, by rw [List.set_append_left _ _ hk]⟩
theorem Dr.app {k : Nat} {st t : Sto} (h : Dr k st) : Dr k (st ++ t) := by
  obtain ⟨a, e⟩ := h
  exact ⟨a, by rw [List.getElem?_append_left (List.getElem?_eq_some_iff.mp e).1]; exact e⟩
theorem Up.get {k j : Nat} {st s : Sto} (h : Up k st s) (hj : j ≠ k) : s[j]? = st[j]? := by
  obtain ⟨a, rfl⟩ := h
  exact List.getElem?_set_ne (Ne.symm hj)
/-- only what is drawn from was changed -/
theorem gc_up {k : Nat} {st s t : Sto} {x : PV} (u : Up k st s) (h : low st.length x = true) : gc st x (s ++ t) = .ok x s := by
  have hl := u.len
  have e1 : (s ++ t).take st.length = s := by rw [← hl]; simp
  unfold gc
  simp only [gcV_low h, e1]
  rw [okOld_of st.length (Nat.le_of_eq hl) fun i a q => ?_]
  · simp [hl]
  · obtain ⟨b, rfl⟩ := u
    rw [List.getElem?_set] at q
    split at q
    · split at q
      · cases q; exact .inr rfl
      · cases q
    · exact .inl q
theorem gc_up0 {k : Nat} {st s : Sto} {x : PV} (u : Up k st s) (h : low st.length x = true) : gc st x s = .ok x s := by
  have := gc_up (t := []) u h
  rwa [List.append_nil] at this
theorem gc_listU {k j : Nat} {st s t : Sto} {xs : List PV} (u : Up k st s) (hk : st.length ≤ j) (e : (s ++ t)[j]? = some (.lst xs)) (h : lows st.length xs = true) : gc st (.ref j) (s ++ t) = .ok (.lst xs) s := by
  have hl := u.len
  have e1 : (s ++ t).take st.length = s := by rw [← hl]; simp
  unfold gc
  simp only [gcV_ref hk e h, e1]
  rw [okOld_of st.length (Nat.le_of_eq hl) fun i a q => ?_]
  · simp [hl]
  · obtain ⟨b, rfl⟩ := u
    rw [List.getElem?_set] at q
    split at q
    · split at q
      · cases q; exact .inr rfl
      · cases q
    · exact .inl q
end Sim
local macro_rules | `(tactic| simp_all_arith! [$ls,*]) => `(tactic| simp -implicitDefEqProofs only [$ls,*, Sim.Tgt.run, Sim.mVar, Sim.mC, Sim.mApp, Sim.mCons, Sim.mNil, Sim.mBin, Sim.mUn, Sim.mAnd_eq, Sim.mOr_eq, Sim.mNot_eq, Sim.mChain_eq, Sim.bVal_eq, Sim.bNot, Sim.bAnd, Sim.bOr, Sim.onB_bl, Sim.fnN, Sim.Res.bind_ok, Sim.Res.bind_exc, Sim.Res.bind_bad, List.map_cons, List.map_nil, List.length_cons, List.length_nil, List.replicate, List.cons_append, List.nil_append, List.append_nil, List.getElem?_cons_zero, List.getElem?_cons_succ, List.getElem?_nil, List.set_cons_zero, List.set_cons_succ, List.set_nil, Nat.add_zero, Nat.zero_add, Nat.reduceAdd, Nat.reduceSub, Nat.reduceEqDiff, if_true, if_false, Bool.false_eq_true, ↓reduceIte, Bool.not_true, Bool.not_false, Bool.not_not, Bool.true_and, Bool.false_and, Bool.and_true, Bool.and_false, Bool.true_or, Bool.false_or, Bool.or_true, Bool.or_false, Sim.mIter, Sim.sIter_tup, Sim.sIter_lst, Sim.is_int, Sim.is_bool, Sim.is_str, Sim.is_tuple, Sim.is_list, Sim.is_dict, Sim.sLe, Sim.sLt, Sim.sGt, Sim.sGe, Sim.sOrd, Sim.wR_bind, Sim.wR_ok, Sim.wO_seq, Sim.wO_nil, Sim.wO_break, Sim.wO_cont, Sim.wO_retN, Sim.wO_set1, Sim.wO_expr, Sim.wO_ret, Sim.wO_if, Sim.wO_for, Sim.wO_nx, Sim.wR_ite])

set_option Elab.async false
set_option linter.all false
set_option maxRecDepth 100000
set_option maxHeartbeats 4000000
/-! errors: raised, caught, kept, asked for their class -/
namespace Sim
open PySem PySem.Spec PyProof.Rows L2
variable [Tb] [Lm]
/-! ### raise, and defs that raise -/
def cRaise (n : String) : MS := fun _ st => .exc n [] st
/-- nothing is raised here -/
def cNox (b : MS) : MS := fun env st => match b env st with
  | .exc _ _ _ => .bad
  | r => r
def outX (st : Sto) : Out → Res PV
  | .rt x s => gc st x s
  | .nx _ s => gc st .non s
  | .exc n [] s => match gc st .non s with
    | .ok _ s' => .exc n [] s'
    | _ => .bad
  | _ => .bad
def defX (n : Nat) (b : MS) : MF := fun xs st => outX st (b (xs.map some ++ List.replicate (n - xs.length) none) st)
section
variable {X : Cx} {T : String → Value} {E : XK}
theorem s_raise {e : Expr} {n : String} {C : Addr} {pos : Pos} (hc : X.calm = true) (tk : L2.Takes X (fun cls d _ H => E cls d H)) (hT : T n = .ref C) (he : L2.PMk X e (fun _ H Q => Q (.ref C) none H)) : SX X T E (.Raise (some e) none pos) (cRaise n) :=
  ps_imp (L2.ps_raise hc tk he) fun D σ H ⟨g, st, env, so, en, h⟩ => h g H (.ref C) none (Ext.refl _ _) so ⟨hT.symm, rfl⟩
theorem s_nox {ss : List Stmt} {b : MS} (h : SXs X.nox T E0 ss b) : SXs X T E ss (cNox b) :=
  pss_imp (PSs.nox h) fun D σ H ⟨g, st, env, so, en, w⟩ => ⟨g, st, env, so, en, by
    unfold cNox at w
    cases q : b env st with
    | exc n fs s => rw [q] at w; exact w.elim
    | bad => rw [q] at w; exact w.elim
    | nx e s => rw [q] at w; exact w
    | rt e s => rw [q] at w; exact w
    | bk e s => rw [q] at w; exact w
    | ct e s => rw [q] at w; exact w⟩
/-- what is known of a def that may raise -/
structure DfX (P : Program) (w : World) (K : PySem.W.Frag) (mg : Str → Option Value) (base : Heap) (T : String → Value) (x : Str) (k : Nat) (ps : List Str) (F : MF) : Prop where
  ex : ∃ f fd, FnG P w K mg base (L2.CX P w) k f fd ps (spM T K ps.length F) ∧ mg x = some (.ref f) ∧ PySem.W.keepIn K (.ref f) = true ∧ Binds K fd ps []
variable {k j n : Nat} {ps : List Str} {F : MF} {x : Str} {p pos : Pos} {e : Expr} {es : List Expr} {ms : ML}
/-- called in a def that may raise -/
theorem y_callX (d : DfX X.prog X.w X.K X.mg X.base T x k ps F) (tk : L2.Takes X (fun cls d _ H => E cls d H)) (gd : Gd X.A) (hr : Room j X.A) (hj : k ≤ j) (hg : Gl X x) (ha : AX X T E (e :: es) ms) (hdb : (x == ("__debug__" : Str)) = false := by decide)
    (he : starEach (e :: es) X.env = (false, eval e X.env) :: starEach es X.env := by rfl) (hpl : (backTo pos (starEach es X.env)).any (·.1) = false := by rfl) (hn : ps.length = n := by rfl) : EX X T E (.Call (.Name x p) (e :: es) [] pos) (mApp (fnN n F) ms) := by
  subst hn
  obtain ⟨f, fd, h1, h2, h3, h4⟩ := d.ex
  exact pe_imp (pe_callG (E := E) h1 gd (hr.mono hj) hg h2 h3 h4 .nil (L2.passes_call tk fun _ _ _ _ h => h) ha hdb he hpl) fun σ H Q ⟨g, st, env, s, en, h⟩ => tl_of s en h fun g1 H1 st1 xs vs e1 s1 en1 r1 h1 => by
    simp only [fnN] at h1
    split at h1
    · rename_i hl
      rw [List.append_nil]
      exact ⟨by rw [← r1.length]; exact hl, g1, st1, xs, s1, r1, h1⟩
    · exact h1.elim
end
omit [Lm] in
/-- a raising def's mirror is the def -/
theorem y_defX {T : String → Value} {P : Program} {w : World} {K : PySem.W.Frag} {mg : Str → Option Value} {base : Heap} {k : Nat} {f : Addr} {x qual : Str} {st : Stmt} {fd : FuncData} {N ps : List Str} {b : MS} (F : Fun K x qual st f fd) (S : FnScope N ps (defScope st))
    (hbody : ∀ (cdv : Value) (A : Around) (outer : List PySem.Env) (s : Shared) (H : Hp) (E : XK), Gd (A.deeper (envOfC qual (defScope st) s.heap.objs.size f cdv)) → Room k (A.deeper (envOfC qual (defScope st) s.heap.objs.size f cdv)) →
      letI : Lm := lm0; SXs (cxOf (L2.CX P w) P w K mg base N qual (defScope st) f cdv A outer s H E) T E (defBody st) b) :
    FnG P w K mg base (L2.CX P w) (k + 1) f fd ps (spM T K ps.length (defX N.length b)) := by
  letI : Lm := lm0
  refine fnG_of F S (fun vs H Q E h => h.1) fun cdv A outer s H vs Q E gd hr h => ?_
  obtain ⟨hl, g, st', xs, so, l, h⟩ := h
  refine ⟨_, hbody cdv A outer s H E gd hr, g, st', _, so, env_start (N := N) l, ?_⟩
  unfold defX at h
  show okS T K E g H (b (xs.map some ++ List.replicate (N.length - xs.length) none) st') _
  cases q : b (xs.map some ++ List.replicate (N.length - xs.length) none) st' with
  | rt y s => rw [q] at h; exact fun g' H' v e s1 r => gc_ok so e s1 r h
  | nx e s => rw [q] at h; exact fun g' H' σ' e s1 _ => gc_ok so e s1 .non h
  | bk e s => rw [q] at h; exact h.elim
  | ct e s => rw [q] at h; exact h.elim
  | bad => rw [q] at h; exact h.elim
  | exc n fs s =>
    rw [q] at h
    cases fs with
    | cons a fs => exact h.elim
    | nil =>
      intro g' H' c d e s1 re
      have h2 : okR T K (rV K) g H (gc st' .non s) (fun _ H2 => E c d H2) E := by
        simp only [outX] at h
        cases q2 : gc st' .non s with
        | bad => rw [q2] at h; exact h.elim
        | exc n2 fs2 s2 => rw [q2] at h; exact h.elim
        | ok y s2 => rw [q2] at h; exact fun g2 H2 v e2 so2 _ => h g2 H2 c d e2 so2 re
      exact gc_ok so e s1 .non h2
end Sim

set_option Elab.async false
set_option linter.all false
set_option maxRecDepth 100000
set_option maxHeartbeats 4000000
namespace Sim
open PySem PySem.Spec PyProof.Rows L2
variable [Tb] [Lm]
/-! ### an error that is caught and kept -/
section
variable {X : Cx} {pins : List (Addr × Obj)} {σ : L2.St} {H : Hp} {s : Shared}
/-- from now on it is tracked: nothing of before stands there -/
theorem track {u : Addr} {ob : Obj} {fs : Array Value} {cls : Value} (I : Inv X pins σ H s) (hx : X.ex = []) (ho : s.heap.get? u = some ob) (hz : Zc cls none ob) (hd : ob.data = .fields fs) (hn : H u = none) (h0 : X.s_0.heap.get? u = none)
    (hp : ∀ q ∈ X.pn ++ pins, q.1 ≠ u) (hl : X.env.locals ≠ u) : Inv X pins σ (upd H u (ErrO cls u)) s := by
  have ne : ∀ {b o}, H b = some o → b ≠ u := fun e z => by subst z; rw [hn] at e; cases e
  have n0 : ∀ {b o}, X.s_0.heap.get? b = some o → b ≠ u := fun e z => by subst z; rw [h0] at e; cases e
  have new : ObjOk X.prog X.w (upd H u (ErrO cls u)) s.heap u (ErrO cls u) := ⟨⟨ob, fs, ho, hz.1, hz.2, hd⟩, ⟨ob, ho⟩, fun _ _ ⟨o, v, q, r⟩ k => ⟨o, v, k o q, r⟩⟩
  refine { ok := I.ok, os := I.os, bare := I.bare, base := ?_, loc := I.loc, cell := I.cell, free := ?_, freeC := ?_, pin := ?_, hok := I.hok.laidN (fun _ _ q => q) hn new, len := I.len }
  · refine { keep := I.base.keep, slot := I.base.slot, free := ?_, there := I.base.there, tups := ?_, frzs := ?_, tbls := ?_ }
    · intro b o e n m
      rw [upd_ne (n0 e)]; exact I.base.free b o e n m
    · intro b xs e
      have z := I.base.tups b xs e
      rw [upd_ne (ne z)]; exact z
    · intro b o x e
      have z := I.base.frzs b o x e
      rw [upd_ne (ne z)]; exact z
    · intro b ps e
      obtain ⟨m, z⟩ := I.base.tbls b ps e
      exact ⟨m, by rw [upd_ne (ne z)]; exact z⟩
  · rw [upd_ne hl]; exact I.free
  · intro y c e
    obtain ⟨v, o, hc, hcd⟩ := I.cell y c e
    have : c ≠ u := fun z => by
      subst z
      rw [hc] at ho; cases ho
      rw [hd] at hcd; cases hcd
    rw [upd_ne this]; exact I.freeC y c e
  · intro q hq
    obtain ⟨a1, a2, a3⟩ := I.pin q hq
    exact ⟨a1, by rw [upd_ne (hp q hq)]; exact a2, a3⟩
end
/-- what is wished of what the body raises: of the clause's class, without a dict; then it is kept, in slot j -/
def wKeep (K : PySem.W.Frag) (c : Value) (i j : Nat) (D : Ends) : L2.WX := fun cls d σ H =>
  d = none ∧ PySem.W.exmOne K cls c = some true ∧ ∀ u, H u = none → D.nx (((σ.set i (some (.ref u))).set j (some (.ref u))).set i none) (upd H u (ErrO cls u))
section
variable {X : Cx} {x n : Str} {c : Value} {i j : Nat} {body suite : List Stmt} {b₀ : Stmt} {np pos pos' : Pos} {tb : L2.WX → TS}
theorem ps_keep (stk : X.stack = X.env :: X.outer) (frm : X.env.frame = some X.env.locals) (hex : X.ex = []) (nod : X.N.Nodup) (hi : X.N[i]? = some n) (loc : X.env.kindOf n = some .local) (nm : Names X x c)
    (bd : ∀ (W : L2.WX) (pn : List (Addr × Obj)) (xe : Value → Shared → Prop), L2.Takes (X.tr pn xe) W → PassesOwn (model X.prog X.w) X.A X.env xe → PSs (X.tr pn xe) body (tb W))
    (su : ∀ (u : Addr) (pn : List (Addr × Obj)), PSs (X.suite u pn) (b₀ :: suite) fun D σ H => σ[i]? = some (some (.ref u)) ∧ D.nx (σ.set j (some (.ref u))) H) :
    PS X (.Try body [.ExceptHandler (some (.Name x np)) (some n) (b₀ :: suite) pos'] [] [] pos) (fun D σ H => tb (wKeep X.K c i j D) D σ H) := by
  constructor
  intro pins s σ H D I h
  have ok := I.ok
  have fr : X.A.frames = some (X.env :: X.outer) := ok.frames.trans (congrArg some stk)
  apply wpAny_Try_except
  let hand := fun (e : Value) (t : Shared) => wpAny (model X.prog X.w) X.A (handleBy e X.env [.ExceptHandler (some (.Name x np)) (some n) (b₀ :: suite) pos']) (SP X pins D) X.xe t
  have caught : L2.Takes (X.tr (X.pn ++ pins) fun e t => wpAny (model X.prog X.w) X.A (noteFrame e X.env) (fun _ t2 => wpAny (model X.prog X.w) X.A (setFlight e none) (fun _ t3 => hand e t3) X.xe t2) X.xe t) (wKeep X.K c i j D) := by
    rintro _ t ⟨u, B, sI, pins', σ1, H1, cls, d, rfl, J0, nb, up, sky, na, os, ag, rfl, hcl, go⟩
    have J : Inv X pins σ1 H1 sI := J0.ofTry ok
    rw [show (X.tr (X.pn ++ pins) _).stack = X.env :: X.outer from stk] at sky
    show wpAny (model X.prog X.w) X.A (noteFrame (.ref u) X.env) _ _ _
    apply L2.Sky.land Zc.steady fr frm sky
    intro h3 fl3 up3
    have J3 : Inv X pins σ1 H1 { t with heap := h3 } := J.landed nb fl3.1 (up.trans up3) os ag
    obtain ⟨o3, v3, g3, z3, d3⟩ := fl3.there
    have out : u ∉ frs (X.env :: X.outer) := by
      intro hm
      obtain ⟨_, o', e', hf⟩ := (fl3.2.2.1).mem hm
      rw [g3] at e'
      cases e'
      exact hf _ d3
    have nL : u ≠ X.env.locals := by
      intro z
      apply out
      rw [z]
      exact List.mem_filterMap.mpr ⟨X.env, List.mem_cons_self, frm⟩
    have nF : u ∉ X.fs := by
      intro hm
      obtain ⟨e, he, q⟩ := List.mem_filterMap.mp hm
      exact out (List.mem_filterMap.mpr ⟨e, List.mem_cons_of_mem _ he, q⟩)
    have nI : sI.heap.get? u = none := by
      cases q : sI.heap.get? u with
      | none => rfl
      | some o =>
        have z := nb u o q (by rw [stk]; exact out)
        rw [fl3.2.1] at z
        cases z
    have S3 := J3.suite g3 d3 na nL nF
    apply wpAny_handleBy_cons _ (by intro q; cases q)
    apply codeAny_handlers_test
    have ty : PySem.W.Looks (model X.prog X.w) h3 (typeOf (.ref u)) cls := fun A Q E s k q => wpAny_typeOf_ref (k _ _ g3) (by rw [z3.1]; exact q)
    have mt := PySem.W.exm_one (M := model X.prog X.w) J3.kIn ty hcl
    have cls_ : ∀ {Q : Value → Shared → Prop} {E : Value → Shared → Prop}, Q c { t with heap := h3 } → wpAny (model X.prog X.w) (X.A.mark (some (.ref u))) (eval (.Name x np) X.env) Q E { t with heap := h3 } := by
      intro Q E q
      obtain ⟨hg, hdb, hm | ⟨hm, hv, hnn⟩⟩ := nm
      · exact ld_glob (X := X.suite u _) S3 hg hm q hdb
      · exact ld_blt (X := X.suite u _) S3 hg hm hv q hnn hdb
    apply cls_
    apply mt.here
    apply codeAny_handlers_suite_as
    apply HandSPX.lands_againZ fl3
    intro h4 fl4 up4
    have J4 : Inv X pins σ1 H1 { t with heap := h4 } := J.landed nb fl4.1 ((up.trans up3).trans up4) os ag
    obtain ⟨o4, v4, g4, z4, d4⟩ := fl4.there
    have S4 := J4.suite g4 d4 na nL nF
    refine store_ok (X := X.suite u ((u, o4) :: (X.pn ++ pins))) (v := .ref u) S4 nod hi (.inl loc) rfl (fun s5 S5 => ?_) (.inr loc)
    have hlen : i < σ1.length := by
      have := S4.len
      rw [this]
      exact (List.getElem?_eq_some_iff.mp hi).1
    let D5 : Ends := { nx := fun σ' H' => σ' = (σ1.set i (some (.ref u))).set j (some (.ref u)) ∧ H' = H1, rt := fun _ _ => False, bk := fun _ _ => False, ct := fun _ _ => False }
    have run := (su u ((u, o4) :: (X.pn ++ pins))).run [] s5 _ H1 D5 S5 ⟨by rw [List.getElem?_set_self hlen], rfl, rfl⟩
    refine wpAny_mono run ?_ fun _ _ z => False.elim z
    intro f s6 hs
    cases f with
    | next =>
      obtain ⟨σ6, H6, S6, rfl, rfl⟩ := hs
      have p6 := S6.pin (u, o4) (List.mem_append.mpr (.inl List.mem_cons_self))
      have pn6 : ∀ q ∈ X.pn ++ pins, q.1 ≠ u := by
        intro q hq z
        have := (J.pin q hq).1
        rw [z, nI] at this
        cases this
      have n0 : X.s_0.heap.get? u = none := by
        cases q : X.s_0.heap.get? u with
        | none => rfl
        | some o =>
          obtain ⟨o', z⟩ := J.base.there u o q (by rw [hex]; exact fun z => nomatch z)
          rw [nI] at z
          cases z
      have T6 := track (S6.unsuite ok) hex p6.1 z4 d4 p6.2.1 n0 pn6 (Ne.symm nL)
      refine gone_ok T6 nod hi loc fun s7 J7 => ?_
      exact ⟨_, _, J7, go u na⟩
    | brk => obtain ⟨_, _, _, z⟩ := hs; exact z.elim
    | cont => obtain ⟨_, _, _, z⟩ := hs; exact z.elim
    | ret v => obtain ⟨_, _, _, _, _, z⟩ := hs; exact z.elim
  refine wpAny_mono ((bd (wKeep X.K c i j D) (X.pn ++ pins) _ caught PassesOwn.looking).run [] s σ H D (I.toTry _) h) ?_ fun e t q => q
  intro f s1 hs
  cases f with
  | next =>
    obtain ⟨σ', H', J', q⟩ := hs
    exact wpAny_execs_nil ⟨σ', H', J'.ofTry ok, q⟩
  | brk =>
    obtain ⟨σ', H', J', q⟩ := hs
    exact ⟨σ', H', J'.ofTry ok, q⟩
  | cont =>
    obtain ⟨σ', H', J', q⟩ := hs
    exact ⟨σ', H', J'.ofTry ok, q⟩
  | ret v =>
    obtain ⟨w, σ', H', J', r, q⟩ := hs
    exact ⟨w, σ', H', J'.ofTry ok, r, q⟩
end
end Sim

set_option Elab.async false
set_option linter.all false
set_option maxRecDepth 100000
set_option maxHeartbeats 4000000
namespace Sim
open PySem PySem.Spec PyProof.Rows L2
variable [Tb] [Lm]
/-! ### try: one call; except C as n: kept = n -/
abbrev tBody (T : String → Value) (K : PySem.W.Frag) (m : M) : L2.WX → TS := fun W D σ H => ∃ g st env, StOk K g H st ∧ EnvOk K g H env σ ∧ okR T K (rV K) g H (m env st) (fun _ H' => D.nx σ H') (fun c d H' => W c d σ H')
/-- what stands in a try, its names left as they are -/
def BX (X : Cx) (T : String → Value) (body : List Stmt) (m : M) : Prop :=
  ∀ (W : L2.WX) (pn : List (Addr × Obj)) (xe : Value → Shared → Prop), L2.Takes (X.tr pn xe) W → PassesOwn (model X.prog X.w) X.A X.env xe → PSs (X.tr pn xe) body (tBody T X.K m W)
def mAppO (f : SeN) (ms : ML) : M := fun env st => (ms env st).only.bind fun xs s1 => f xs s1
def cTryK (cs : List String) (i j : Nat) (m : M) : MS := fun env st => match m env st with
  | .ok _ s => .nx env s
  | .exc n [] s => if cs.contains n then .nx (((env.set i (some (.err n))).set j (some (.err n))).set i none) s else .bad
  | _ => .bad
theorem EnvOk.clear {K : PySem.W.Frag} {g : G} {H : Hp} {env : Lo} {σ : L2.St} (h : EnvOk K g H env σ) (i : Nat) (hlm : Lm.at_ i = none) : EnvOk K g H (env.set i none) (σ.set i none) := by
  refine ⟨by simp [h.len], fun k y q => ?_, fun k a q1 q2 => ?_⟩
  rotate_left
  · have ne : i ≠ k := fun z => by subst z; rw [hlm] at q1; cases q1
    rw [List.getElem?_set_ne ne] at q2
    rw [List.getElem?_set_ne ne]
    exact h.lm k a q1 q2
  by_cases e : i = k
  · subst e
    by_cases hi : i < env.length
    · rw [List.getElem?_set_self hi] at q; cases q
    · rw [List.getElem?_eq_none (by simpa using hi)] at q; cases q
  · rw [List.getElem?_set_ne e] at q
    rw [List.getElem?_set_ne e]
    exact h.at_ k y q
section
variable {X : Cx} {T : String → Value} {E : XK} {k j n : Nat} {ps : List Str} {F : MF} {x : Str} {p pos pos2 : Pos} {e : Expr} {es : List Expr} {ms : ML}
theorem b_call (d : DfX X.prog X.w X.K X.mg X.base T x k ps F) (gd : Gd X.A) (hr : Room j X.A) (hj : k ≤ j) (hg : Gl X x) (ha : ∀ (pn : List (Addr × Obj)) (xe : Value → Shared → Prop), AX (X.tr pn xe) T E0 (e :: es) ms) (hdb : (x == ("__debug__" : Str)) = false := by decide)
    (he : starEach (e :: es) X.env = (false, eval e X.env) :: starEach es X.env := by rfl) (hpl : (backTo pos (starEach es X.env)).any (·.1) = false := by rfl) (hn : ps.length = n := by rfl) (hs : swapsWith (.Call (.Name x p) (e :: es) [] pos) none pos2.line X.env = pure false := by rfl) :
    BX X T [.Expr (.Call (.Name x p) (e :: es) [] pos) pos2] (mAppO (fnN n F) ms) := by
  subst hn
  obtain ⟨f, fd, h1, h2, h3, h4⟩ := d.ex
  intro W pn xe tk po
  have pe : PE (X.tr pn xe) (.Call (.Name x p) (e :: es) [] pos) (fun σ H Q => TL T X.K E0 ms σ H fun vs H1 => spM T X.K ps.length F vs H1 Q (WE W σ)) := by
    constructor
    intro pins s σ H Q I h
    apply wpAny_Call_Name_kw
    refine ld_glob I hg h2 ?_ hdb
    have args := (ha pn xe).run pos pins s σ H _ I h
    refine PySem.W.callWith_K (h₀ := X.base) I.ok.mod.kin h3 (thn args ?_) he hpl
    rintro us s1 ⟨vs, H1, I1, r, q⟩
    refine ⟨I1.kIn, ?_⟩
    have hl : us.length = ps.length := r.length.symm.trans q.1
    have b := h4 s1 us I1.kIn (by rw [List.append_nil]; exact hl)
    rw [List.append_nil] at b
    have c := h1.go X.A X.stack s1 H1 ⟨us, []⟩ us vs Q (WE W σ) gd (hr.mono hj) I1.env0 b r q
    refine wpAny_call (codeAny_mono c ?_)
    intro res s' hq
    match res, hq with
    | .error er, hq => exact L2.passAt tk σ pins H1 s1 er s' I1 hq
    | .ok (.ret u), hq => exact I1.after hq
  refine pss_imp (pss_one (ps_expr pe hs)) fun D σ H ⟨g, st, env, so, en, h⟩ => ⟨g, st, env, so, en, ?_⟩
  unfold mAppO at h
  cases q : ms env st with
  | exc n fs s => rw [q] at h; exact h.elim
  | bad => rw [q] at h; exact h.elim
  | ok xs s =>
    rw [q] at h
    intro g1 H1 vs e1 s1 r1
    simp only [Res.only, Res.bind_ok, fnN] at h
    split at h
    · rename_i hl
      exact ⟨by rw [← r1.length]; exact hl, g1, s, xs, s1, r1, okR.ext h e1⟩
    · exact h.elim
theorem s_tryK {cs : List String} {i jj : Nat} {nm : Str} {c : Value} {body suite : List Stmt} {b₀ : Stmt} {np pos' : Pos} {m : M} (hcs : ∀ n ∈ cs, PySem.W.exmOne X.K (T n) c = some true) (hT : ∀ n ∈ cs, T n = clsK X.K n) (stk : X.stack = X.env :: X.outer) (frm : X.env.frame = some X.env.locals) (hex : X.ex = [])
    (nod : X.N.Nodup) (hi : X.N[i]? = some nm) (loc : X.env.kindOf nm = some .local) (hnm : Names X x c) (hb : BX X T body m)
    (su : ∀ (u : Addr) (pn : List (Addr × Obj)), PSs (X.suite u pn) (b₀ :: suite) fun D σ H => σ[i]? = some (some (.ref u)) ∧ D.nx (σ.set jj (some (.ref u))) H) (hlm : Lm.at_ i = none := by rfl) :
    SX X T E (.Try body [.ExceptHandler (some (.Name x np)) (some nm) (b₀ :: suite) pos'] [] [] pos) (cTryK cs i jj m) := by
  refine ps_imp (ps_keep stk frm hex nod hi loc hnm hb su) fun D σ H ⟨g, st, env, so, en, h⟩ => ⟨g, st, env, so, en, ?_⟩
  unfold cTryK at h
  cases q : m env st with
  | bad => rw [q] at h; exact h.elim
  | ok y s =>
    rw [q] at h
    exact fun g1 H1 v e1 s1 r1 => h g1 H1 σ e1 s1 (en.mono e1)
  | exc n fs s =>
    rw [q] at h
    cases fs with
    | cons a fs => exact h.elim
    | nil =>
      simp only at h
      split at h
      · rename_i hc
        have hm : n ∈ cs := List.contains_iff_mem.mp hc
        rintro g1 H1 c' d e1 s1 ⟨rfl, rfl⟩
        refine ⟨rfl, hcs n hm, fun u nu => ?_⟩
        have e2 := ext_frz (o := ErrO (T n) u) s1 nu
        have rv : RV X.K (g1.frz u) (upd H1 u (ErrO (T n) u)) (.err n) (.ref u) := .err (.inr rfl) (by rw [upd_same, hT n hm])
        have en2 := en.mono (e1.trans e2)
        exact h _ _ _ (e1.trans e2) (st_frz s1 nu) (((en2.set rv i).set rv jj).clear i hlm)
      · exact h.elim
/-- the suite: kept = n -/
theorem keep_set {i jj : Nat} {nm kn : Str} {p1 p2 p3 : Pos} {u : Addr} {pn : List (Addr × Obj)} (nod : X.N.Nodup) (hi : X.N[i]? = some nm) (hj : X.N[jj]? = some kn) (vis : Vis X.env.scope nm) (hl : Loc X.env.scope kn) (hd : (nm == ("__debug__" : Str)) = false) (hcd : (nm == ("__classdict__" : Str)) = false)
    (hs : swapsWith (.Name nm p2) (some (.Name kn p1)) p3.line X.env = pure false) (hf : X.fn kn = true ∨ X.env.scope.names.lookup kn = some .local) :
    PSs (X.suite u pn) [.Assign [.Name kn p1] (.Name nm p2) p3] fun D σ H => σ[i]? = some (some (.ref u)) ∧ D.nx (σ.set jj (some (.ref u))) H :=
  pss_imp (pss_one (ps_set (X := X.suite u pn) nod hj hl (pe_var (X := X.suite u pn) hi vis hd hcd) hs hf)) fun D σ H ⟨h1, h2⟩ => ⟨_, h1, h2⟩
end
/-! ### isinstance of an error -/
def subE (n cn : String) : Bool := decide (n = cn) || decide (cn = "WebError") || decide (cn = "ValueError")
def mIsE (cs : List String) (cn : String) (m : M) : M := fun env st => (m env st).bind fun x s => match x with
  | .err n => if cs.contains n then .ok (.bl (subE n cn)) s else .bad
  | .non => .ok (.bl false) s
  | _ => .bad
def rIsErr (K : PySem.W.Frag) (cv : Value) : List V → Hp → VK → Prop := fun xs H Q => ∃ (x c : V) (b : Bool), xs = [x, c] ∧ (∀ u, RelV c u → u = cv) ∧
  ((∃ a D, x = .ref a ∧ H a = some (ErrO (.ref D) a) ∧ ExcC K D ∧ PySem.W.kitOne K (.ref D) cv = some b) ∨ (x = .non ∧ PySem.W.kitOne K (.type "NoneType") cv = some b)) ∧ Q (.bl b) H
theorem call_isErr {X : Cx} {cv : Value} : CallR X (.builtin "isinstance") (rIsErr X.K cv) := by
  intro pins s σ H xs us Q I r h
  obtain ⟨x, c, b, rfl, hcv, hx, q⟩ := h
  obtain ⟨u1, u2, rfl, r1, r2⟩ := vals2 r
  have e2 := hcv _ r2
  subst e2
  rcases hx with ⟨a, D, rfl, hH, C, e⟩ | ⟨rfl, e⟩
  · cases (show u1 = Value.ref a from r1)
    obtain ⟨⟨o, v, g, z1, z2, z3⟩, _⟩ := (show ObjOk X.prog X.w H s.heap a (ErrO (.ref D) a) from I.hok a _ hH)
    have J : PySem.W.InstAt s.heap a o D none := by
      obtain ⟨oc, od, oda, osl⟩ := o
      dsimp only at z1 z2 z3
      subst z1 z2 z3
      exact ⟨g, rfl, rfl, trivial⟩
    exact PySem.W.kia_one (PySem.W.handS_kitx_exc C.hg C.hk C.hs C.hd C.ha C.hn C.ht C.hm) I.kIn J e (fun z => nomatch z) fun tk => ⟨.bl b, H, I.kept (t' := tk) fun _ _ z => z, rfl, q⟩
  · obtain ⟨P, Z, p, hne⟩ := kit_of I r1 (.base .non)
    exact PySem.W.kia_one Z I.kIn p e hne fun tk => ⟨.bl b, H, I.tok tk, rfl, q⟩
structure ErK (K : PySem.W.Frag) (cs : List String) (cn : String) (cv : Value) : Prop where
  non : PySem.W.kitOne K (.type "NoneType") cv = some false
  err : ∀ n ∈ cs, ∃ D, clsK K n = .ref D ∧ ExcC K D ∧ PySem.W.kitOne K (.ref D) cv = some (subE n cn)
theorem x_isE {X : Cx} {T : String → Value} {E : XK} {cs : List String} {cn : String} {cv : Value} {c : V} {e : Expr} {m : M} {y : Str} {p py pos : Pos} (F : ErK X.K cs cn cv) (hcv : ∀ u, RelV c u → u = cv) (hc : PE X (.Name y py) (tC c)) (he : EX X T E e m) (hg : Gl X "isinstance") (hm : X.mg "isinstance" = none)
    (hs : starEach [e, .Name y py] X.env = (false, eval e X.env) :: starEach [.Name y py] X.env := by rfl) : EX X T E (.Call (.Name "isinstance" p) [e, .Name y py] [] pos) (mIsE cs cn m) := by
  refine pe_imp (pe_callB (call_isErr (cv := cv)) hg hm (by decide +kernel) (pa_cons he (pa_cons hc pa_nil) hs) (he := hs)) fun σ H Q ⟨g, st, env, s, en, h⟩ => ?_
  refine tv_of s en h fun g1 H1 st1 x v e1 s1 en1 r1 h1 => ?_
  cases r1 with
  | err hf hh =>
    rename_i a n
    simp only at h1
    split at h1
    · rename_i hcs
      obtain ⟨D, d1, d2, d3⟩ := F.err n (List.contains_iff_mem.mp hcs)
      exact ⟨_, _, _, rfl, hcv, .inl ⟨a, D, rfl, by rw [← d1]; exact hh, d2, d3⟩, okR.fin h1 s1 (.bl _)⟩
    · exact h1.elim
  | non => exact ⟨_, _, _, rfl, hcv, .inr ⟨rfl, F.non⟩, okR.fin h1 s1 (.bl _)⟩
  | _ => exact h1.elim
end Sim
namespace Sim
open PySem PySem.Spec PyProof.Rows L2
variable [Tb] [Lm]
/-! ### more bodies -/
def mIfO (c : MB) (a b : M) : M := fun env st => match c env st with
  | .ok k s => if k = true then a env s else b env s
  | _ => .bad
def mOnly (m : M) : M := fun env st => (m env st).only
section
variable {X : Cx} {T : String → Value} {pos pos2 : Pos} {e : Expr} {m m1 m2 : M} {mc : MB} {b1 b2 : List Stmt}
theorem b_expr (he : ∀ (pn : List (Addr × Obj)) (xe : Value → Shared → Prop), EX (X.tr pn xe) T E0 e m) (hs : swapsWith e none pos2.line X.env = pure false := by rfl) : BX X T [.Expr e pos2] (mOnly m) := by
  intro W pn xe tk po
  refine pss_imp (pss_one (ps_expr (he pn xe) hs)) fun D σ H ⟨g, st, env, so, en, h⟩ => ⟨g, st, env, so, en, ?_⟩
  unfold mOnly at h
  cases q : m env st with
  | exc n fs s => rw [q] at h; exact h.elim
  | bad => rw [q] at h; exact h.elim
  | ok x s => rw [q] at h; exact h
theorem b_if (hc : ∀ (pn : List (Addr × Obj)) (xe : Value → Shared → Prop), TX (X.tr pn xe) T E0 e mc) (h1 : BX X T b1 m1) (h2 : BX X T b2 m2) : BX X T [.If e b1 b2 pos] (mIfO mc m1 m2) := by
  intro W pn xe tk po
  refine pss_imp (pss_one (ps_if (hc pn xe) (h1 W pn xe tk po) (h2 W pn xe tk po))) fun D σ H ⟨g, st, env, so, en, h⟩ => ⟨g, st, env, so, en, ?_⟩
  unfold mIfO at h
  cases q : mc env st with
  | exc n fs s => rw [q] at h; exact h.elim
  | bad => rw [q] at h; exact h.elim
  | ok k s =>
    rw [q] at h
    rintro g1 H1 b e1 s1 rfl
    cases k with
    | true =>
      rw [if_pos rfl]
      exact ⟨g1, s, env, s1, en.mono e1, okR.ext (by simpa using h) e1⟩
    | false =>
      rw [if_neg (by decide)]
      exact ⟨g1, s, env, s1, en.mono e1, okR.ext (by simpa using h) e1⟩
end
/-- what is known of an own class of errors -/
structure ErC (K : PySem.W.Frag) (mg : Str → Option Value) (n : String) (C : Addr) : Prop where
  g : mg (Str.ofString n) = some (.ref C)
  ck : clsK K n = .ref C
  x : PySem.W.excIn K C [.type "ValueError", .type "Exception", .type "BaseException", .type "object"] "ValueError.__new__" = true
  k : PySem.W.keepIn K (.ref C) = true
  b : PySem.W.subIn K (.ref C) (.type "BaseException") = some true
  t : PySem.W.typeIn K (.ref C) = some (.type "type")
theorem erC {K : PySem.W.Frag} {h : Heap} {mg : Str → Option Value} {n : String} {C : Addr} (X : K.In h) (G : h.Ns mainGlobals mg) (a : PySem.W.nsIn K mainGlobals (Str.ofString n) = some (some (.ref C)))
    (x : PySem.W.excIn K C [.type "ValueError", .type "Exception", .type "BaseException", .type "object"] "ValueError.__new__" = true) (k : PySem.W.keepIn K (.ref C) = true) (b : PySem.W.subIn K (.ref C) (.type "BaseException") = some true) (t : PySem.W.typeIn K (.ref C) = some (.type "type")) : ErC K mg n C :=
  ⟨PySem.W.mg_of X G a, by simp only [clsK, a], x, k, b, t⟩
theorem excC {K : PySem.W.Frag} {D : Addr} (hg : PySem.W.findIn K (.ref D) "__getattribute__" = some (some (.builtin "BaseException.__getattribute__"))) (hk : PySem.W.findIn K (.ref D) "__getattr__" = some none) (hs : PySem.W.subIn K (.ref D) (.type "BaseException") = some true) (hd : PySem.W.hasDictIn K D = true)
    (ha : PySem.W.findIn K (.ref D) "__class__" = some (some (.builtin "object.__class__"))) (hn : PySem.W.specialIn K (.builtin "object.__class__") "__get__" = some (some (.builtin "getset_descriptor.__get__"))) (ht : PySem.W.takesIn K (.builtin "object.__class__") = some true) (hm : PySem.W.mroIn K D (.type "object") = some true) : ExcC K D := ⟨hg, hk, hs, hd, ha, hn, ht, hm⟩
theorem law_endX {l : PySem.W.OpenLaw} {n k : Nat} {q : Program} {loose : List Str} {XP : (Str → Option Value) → Heap → Prop} {YP : World → Heap → Prop} {d : DefRec} {K : Params → PySem.W.Frag} {x : Str} {F : MF}
    (hn : l.most = some n) (hn2 : n ≤ sizeLine) (hdf : d.params.defaults = []) (hr : Room k callerA) (hY : ∀ (w : World) (h : Heap), YP w h → (K w.params).In h)
    (hF : ∀ (w : World) (mg : Str → Option Value) (fa : Addr) (h : Heap), (K w.params).In h → h.Ns mainGlobals mg → mg d.name = some (.ref fa) →
      ∃ fd : FuncData, (∀ (s : Shared) (u : Value), BindsTo s fd ⟨[u], []⟩ [(x, u)]) ∧ ∀ base : Heap, (K w.params).In base → base.Ns mainGlobals mg → FnG l.prog w (K w.params) mg base CX0 k fa fd [x] (@spM tb0 (clsK (K w.params)) (K w.params) 1 F))
    (good : ∀ ns : List Int, ns.length ≤ n → ∃ st, F [scriptP ns] [] = .ok (.bl true) st) : PySem.W.WalkO q loose XP YP l.row.toRowW d [] (fun f vs => PySem.call f vs) :=
  law_end (T := fun w => clsK (K w.params)) hn hn2 hdf hr hY hF good
/-! isinstance, by what is known of classes -/
theorem kit_own {K : PySem.W.Frag} {D C : Addr} {b : Bool} (hc : PySem.W.hasDictIn K C = true) (ht : PySem.W.typeIn K (.ref C) = some (.type "type")) (hr : PySem.W.subIn K (.ref D) (.ref D) = some true) (hs : PySem.W.subIn K (.ref D) (.ref C) = some b) : PySem.W.kitOne K (.ref D) (.ref C) = some b := by
  obtain ⟨cd, hcd, _⟩ := PySem.W.any_some hc
  unfold PySem.W.kitOne
  split
  · rename_i h
    have e : D = C := Value.ref.inj (beq_iff_eq.mp h)
    subst e
    rw [hr] at hs; exact hs
  · unfold PySem.W.kitCls
    simp only [hcd, ht, Option.isSome_some, beq_self_eq_true, Bool.and_self, if_true]
    exact hs
theorem kit_val {K : PySem.W.Frag} {D : Addr} {b : Bool} (hs : PySem.W.subIn K (.ref D) (.type "ValueError") = some b) : PySem.W.kitOne K (.ref D) (.type "ValueError") = some b := by
  unfold PySem.W.kitOne
  rw [if_neg (by intro h; exact nomatch (beq_iff_eq.mp h))]
  unfold PySem.W.kitCls
  simp only
  rw [if_pos (by decide +kernel)]
  exact hs
theorem kit_non {K : PySem.W.Frag} {C : Addr} {b : Bool} (hc : PySem.W.hasDictIn K C = true) (ht : PySem.W.typeIn K (.ref C) = some (.type "type")) (hs : PySem.W.subIn K (.type "NoneType") (.ref C) = some b) : PySem.W.kitOne K (.type "NoneType") (.ref C) = some b := by
  obtain ⟨cd, hcd, _⟩ := PySem.W.any_some hc
  unfold PySem.W.kitOne
  rw [if_neg (by intro h; exact nomatch (beq_iff_eq.mp h))]
  unfold PySem.W.kitCls
  simp only [hcd, ht, Option.isSome_some, beq_self_eq_true, Bool.and_self, if_true]
  exact hs
theorem kit_nonV {K : PySem.W.Frag} {b : Bool} (hs : PySem.W.subIn K (.type "NoneType") (.type "ValueError") = some b) : PySem.W.kitOne K (.type "NoneType") (.type "ValueError") = some b := by
  unfold PySem.W.kitOne
  rw [if_neg (by decide +kernel)]
  unfold PySem.W.kitCls
  simp only
  rw [if_pos (by decide +kernel)]
  exact hs
end Sim

set_option Elab.async false
set_option linter.all false
set_option maxRecDepth 100000
set_option maxHeartbeats 4000000
/-! a lambda that is handed to a def: made, called there -/
namespace Sim
open PySem PySem.Spec PyProof.Rows L2
variable [Tb] [Lm]

/-! ### a table grows -/
structure Grow (P : Addr) (H H1 : Hp) : Prop where
  was : ∃ ps, H P = some (.tbl ps)
  same : ∀ b o, H b = some o → b ≠ P → H1 b = some o
theorem Grow.at_ {P : Addr} {H H1 : Hp} (w : Grow P H H1) {b : Addr} {o : HO} (e : H b = some o) (n : ∀ ps, o ≠ .tbl ps) : H1 b = some o := by
  refine w.same b o e fun z => ?_
  obtain ⟨ps, q⟩ := w.was
  rw [z, q] at e
  cases e
  exact n ps rfl
theorem Grow.nt {P : Addr} {H H1 : Hp} (w : Grow P H H1) {a : Addr} (h : nt H a) : H1 a = H a := by
  obtain ⟨o, e, n⟩ := h
  rw [w.at_ e n, e]
theorem tupO_nt {u : HO} (t : TupO u) : ∀ ps, u ≠ .tbl ps := fun ps e => by subst e; cases t
section
variable {K : PySem.W.Frag} {g : G} {H H1 : Hp} {st : Sto} {P : Addr} {q : Str}
theorem Grow.ext (w : Grow P H H1) (s : StOk K g H st) : Ext g H g H1 :=
  ⟨⟨Nat.le_refl _, fun _ _ => rfl, fun a h => ⟨h, w.nt (s.fz a h)⟩, fun a u t h => w.at_ h (tupO_nt t)⟩, fun a h => ⟨h, w.nt (s.pr a h).1⟩⟩
theorem codeO_nt {c : Addr} {q : Str} : ∀ ps, LamX.CodeO c q ≠ .tbl ps := fun ps z => by unfold LamX.CodeO at z; cases z
theorem Grow.keep (w : Grow P H H1) (s : StOk K g H st) (hu : ∀ p ∈ Tb.tabs, p.1 = P → p.2 = q) (t : LamX.TabS H1 P q) : StOk K g H1 st := by
  refine ⟨s.len, s.inj, s.sep, fun a h => (s.fz a h).of (w.nt (s.fz a h)), fun a h => ⟨(s.pr a h).1.of (w.nt (s.pr a h).1), (s.pr a h).2⟩, fun i m e => (s.at_ i m e).keep (w.ext s) (w.nt (s.at_ i m e).nt), fun p hp => ?_⟩
  by_cases e : p.1 = P
  · rw [hu p hp e, e]; exact t
  · obtain ⟨ps, h1, h2, h3⟩ := s.tb p hp
    refine ⟨ps, w.same _ _ h1 e, h2, fun pos cv hc => ?_⟩
    obtain ⟨c, e1, e2⟩ := h3 pos cv hc
    exact ⟨c, e1, w.at_ e2 codeO_nt⟩
end
/-! ### a code object stays among the others -/
theorem among_more {pos : Pos} {cv : Value} {m : List Value} : ∀ {l : List Value}, codeAmong pos l = some cv → codeAmong pos (l ++ m) = some cv := by
  intro l
  fun_induction codeAmong pos l with
  | case1 line t col u c rest h =>
    intro e
    simp only [List.cons_append, codeAmong]
    rw [if_pos h]; exact e
  | case2 line t col u c rest h ih =>
    intro e
    simp only [List.cons_append, codeAmong]
    rw [if_neg h]; exact ih e
  | case3 l h => intro e; cases e

/-! ### the making -/
section
variable {X : Cx} {pins : List (Addr × Obj)} {σ : L2.St} {H : Hp} {s : Shared}
/-- what is known of a lambda's function at f -/
structure LamO (f : Addr) (F : NdefX.NF) (be : Expr) (h : Heap) : Prop where
  ex : ∃ pm ctv sl, h.get? f = some { PySem.W.kla_obj "<lambda>" F.qual F.params be F.scope F.cl pm F.c ctv with slots := sl }
theorem LamO.any {f : Addr} {F : NdefX.NF} {be : Expr} {h h1 : Heap} {fs ex : List Addr} {H H1 : Hp} (o : LamO f F be h) (u : Un fs ex H H1 h h1) (n : H f = none) (x : f ∉ ex) : LamO f F be h1 := by
  obtain ⟨pm, ctv, sl, e⟩ := o.ex
  obtain ⟨sl2, e2⟩ := u.any e n x
  exact ⟨pm, ctv, sl2, e2⟩
theorem lam_mk {c P : Addr} {params : Arguments} {body : Expr} {scope : Scope} {pos : Pos} {E Q : Value → Shared → Prop} (I : Inv X pins σ H s) (TB : LamX.TabB X.base X.mg c P) (hcode : X.env.code = .ref c)
    (tab : LamX.TabS H P (X.env.qual ++ "<lambda>")) (hdef : defaultsOf params X.env = ([], [])) (hfree : ∀ y ∈ scope.names, y.2 = .free → ∃ c, X.env.cells.lookup y.1 = some c)
    (h : ∀ (f c' : Addr) (H1 : Hp) (s' : Shared), Inv X pins σ H1 s' → Grow P H H1 → LamX.TabS H1 P (X.env.qual ++ "<lambda>") → LamO f ⟨"<lambda>", X.env.qual ++ "<lambda>", params, [], scope, cloFrom X.env.cells scope.names [], c'⟩ body s'.heap →
      H1 f = none → (∃ ps, H1 P = some (.tbl ps) ∧ codeAmong pos ps.toList = some (.ref c')) → Q (.ref f) s') :
    wpAny (model X.prog X.w) X.A (eval (.Lambda params body scope pos) X.env) Q E s := by
  obtain ⟨ps, hP, tri, inn⟩ := tab
  apply PySem.W.kla_eval hdef
  have old : s.heap.get? P = some { cls := .none, data := .fields ps } := I.hok P _ hP
  have blt : s.heap.BuiltinsAt X.mg P := TB.bm.keeps I.bk
  have hd : PySem.W.CodeHd s.heap c P := TB.code.keeps I.bk
  have glob := I.mod.glob.keeps I.bk
  cases among : codeAmong pos ps.toList with
  | some cv =>
    obtain ⟨c', rfl, hco⟩ := inn pos cv among
    apply PySem.W.kla_makeFunctionHit (closure_ok hfree) I.ok.glob glob hcode hd old tri among blt
    intro ctv h' tk keep hsz
    have kept : ∀ b o, s.heap.get? b = some o → (h'.push (PySem.W.kla_obj "<lambda>" (X.env.qual ++ "<lambda>") params body scope (cloFrom X.env.cells scope.names []) ((X.mg "__name__").getD .none) c' ctv)).get? b = some o :=
      fun b o e => Heap.get?_push_of_some _ (keep b o e)
    exact h _ c' H _ (I.kept kept) ⟨⟨ps, hP⟩, fun b o e _ => e⟩ ⟨ps, hP, tri, inn⟩ ⟨_, ctv, _, Heap.get?_push_size _ rfl⟩ (I.hok.fresh hsz) ⟨ps, hP, among⟩
  | none =>
    apply PySem.W.kla_makeFunction (closure_ok hfree) I.ok.glob glob hcode hd old tri among TB.gP blt
    intro c' ctv h' tk keep hge hlt rec' tab'
    obtain ⟨c2, oc, vs, t, e2, hoc, hdt, hv⟩ := rec'
    cases e2
    have fresh : H c' = none := I.hok.fresh hge
    have hsz : s.heap.objs.size ≤ h'.objs.size := Nat.le_trans hge (Nat.le_of_lt hlt)
    have J := LamX.inv_table (q := X.env.qual ++ "<lambda>") (t' := tk) (more := #[rawInt pos.line, rawInt pos.col, .ref c'])
      (h' := h'.push (PySem.W.kla_obj "<lambda>" (X.env.qual ++ "<lambda>") params body scope (cloFrom X.env.cells scope.names []) ((X.mg "__name__").getD .none) c' ctv)) I hP
      (fun b o ne e => Heap.get?_push_of_some _ (keep b o ne e)) (Heap.get?_push_of_some _ tab') hge ⟨oc, vs, t, Heap.get?_push_of_some _ hoc, hdt, hv⟩
    have nPc : P ≠ c' := ne_of_none hP fresh
    have atP : (upd (upd H P (.tbl (ps ++ #[rawInt pos.line, rawInt pos.col, .ref c']))) c' (LamX.CodeO c' (X.env.qual ++ "<lambda>"))) P = some (.tbl (ps ++ #[rawInt pos.line, rawInt pos.col, .ref c'])) := by
      rw [upd_ne nPc, upd_same]
    have lst : (ps ++ #[rawInt pos.line, rawInt pos.col, .ref c']).toList = ps.toList ++ [rawInt pos.line, rawInt pos.col, .ref c'] := by simp
    have grow : Grow P H (upd (upd H P (.tbl (ps ++ #[rawInt pos.line, rawInt pos.col, .ref c']))) c' (LamX.CodeO c' (X.env.qual ++ "<lambda>"))) := by
      refine ⟨⟨ps, hP⟩, fun b o e ne => ?_⟩
      rw [upd_ne (ne_of_none e fresh), upd_ne ne]
      exact e
    refine h h'.objs.size c' _ _ J grow ⟨_, atP, ?_, ?_⟩ ⟨_, ctv, _, Heap.get?_push_size _ rfl⟩ ?_ ⟨_, atP, ?_⟩
    · rw [lst]; exact PySem.TriplesOk_snoc _ _ _ _ tri
    · intro p cv hc
      rw [lst] at hc
      rcases LamX.among_app _ tri hc with z | z
      · obtain ⟨c0, e1, e2⟩ := inn p cv z
        exact ⟨c0, e1, grow.at_ e2 codeO_nt⟩
      · exact ⟨c', z, upd_same⟩
    · have n1 : h'.objs.size ≠ c' := Nat.ne_of_gt hlt
      have n2 : h'.objs.size ≠ P := Nat.ne_of_gt (Nat.lt_of_lt_of_le (Heap.lt_size old) hsz)
      rw [upd_ne n1, upd_ne n2]
      exact I.hok.fresh hsz
    · rw [lst]; exact codeAmong_snoc _ tri among
end
end Sim

set_option Elab.async false
set_option linter.all false
set_option maxRecDepth 100000
set_option maxHeartbeats 4000000
/-! a lambda called by the def that it was handed to -/
namespace Sim
open PySem PySem.Spec PyProof.Rows L2
variable [Tb] [Lm]

/-! ### what stays as it is in every store -/
mutual
def imm : PV → Bool
  | .non => true
  | .bl _ => true
  | .int _ => true
  | .str _ => true
  | .tup xs => imms xs
  | .wtp xs => imms xs
  | _ => false
def imms : List PV → Bool
  | [] => true
  | x :: xs => imm x && imms xs
end
def TupS (H H1 : Hp) : Prop := ∀ a u, TupO u → H a = some u → H1 a = some u
section
variable {K : PySem.W.Frag} {g g1 : G} {H H1 : Hp}
mutual
theorem imm_ok (t : TupS H H1) : ∀ {x : PV} {v : V}, RV K g H x v → imm x = true → RV K g1 H1 x v
  | _, _, .non, _ => .non
  | _, _, .bl b, _ => .bl b
  | _, _, .int i, _ => .int i
  | _, _, .str x, _ => .str x
  | _, _, .tup h l, e => .tup (h.elim (fun ⟨o, d, q⟩ => .inl ⟨o, d, t _ _ (.k _ _) q⟩) .inr) (imms_ok t l e)
  | _, _, .wtp h l, e => .wtp (h.elim (fun z => .inl (z.elim (fun q => .inl (t _ _ (.w _) q)) fun ⟨o, q⟩ => .inr ⟨o, t _ _ (.k _ _) q⟩)) .inr) (imms_ok t l e)
  | _, _, .lst _ _ _, e => by simp [imm] at e
  | _, _, .rol _ _ _, e => by simp [imm] at e
  | _, _, .rolK _ _ _, e => by simp [imm] at e
  | _, _, .dct _ _ _, e => by simp [imm] at e
  | _, _, .ref _, e => by simp [imm] at e
  | _, _, .raw _, e => by simp [imm] at e
  | _, _, .err _ _, e => by simp [imm] at e
theorem imms_ok (t : TupS H H1) : ∀ {x : List PV} {v : List V}, RVL K g H x v → imms x = true → RVL K g1 H1 x v
  | _, _, .nil, _ => .nil
  | _, _, .cons r l, e => by
    simp only [imms, Bool.and_eq_true] at e
    exact .cons (imm_ok t r e.1) (imms_ok t l e.2)
end
end
theorem Un.tupS {fs ex : List Addr} {H H1 : Hp} {h h1 : Heap} (u : Un fs ex H H1 h h1) : TupS H H1 := fun a o t e => by
  cases t with
  | w xs => exact u.tups a xs e
  | k o xs => exact u.frzs a o _ e

/-! ### a lambda that lies ready -/
structure Here (P f : Addr) (F : NdefX.NF) (be : Expr) (fr : List Str) (ws : List (Option V)) (pos : Pos) (H0 : Hp) (s : Shared) (H : Hp) : Prop where
  ob : LamO f F be s.heap
  no : H f = none
  cells : NdefX.CellsAt F.cl fr ws s.heap H
  tab : ∃ ps, H P = some (.tbl ps) ∧ codeAmong pos ps.toList = some (.ref F.c)
  tup : TupS H0 H
structure HrOk (f : Addr) (Hr : Shared → Hp → Prop) : Prop where
  fn : ∀ s H, Hr s H → PySem.W.FnAt f s.heap
  on : ∀ (X : Cx) (pins : List (Addr × Obj)) (σ : L2.St) (H : Hp) (s : Shared), X.ex = [] → Hr X.s_0 X.H_0 → Inv X pins σ H s → Hr s H
theorem here_ok {P f : Addr} {F : NdefX.NF} {be : Expr} {fr : List Str} {ws : List (Option V)} {pos : Pos} {H0 : Hp} : HrOk f (Here P f F be fr ws pos H0) := by
  refine ⟨fun s H h => ?_, fun X pins σ H s hx h I => ?_⟩
  · obtain ⟨pm, ctv, sl, e⟩ := h.ob.ex
    exact ⟨_, _, _, _, e⟩
  · have nx : ∀ b, b ∉ X.ex := fun b => by rw [hx]; exact fun z => nomatch z
    have cell : ∀ {c : Addr} {v : Option Value}, X.H_0 c = none → X.s_0.heap.IsCell c v → s.heap.IsCell c v := fun {c v} n ⟨o, e, d⟩ => by
      obtain ⟨sl, e2⟩ := I.base.any e n (nx c)
      exact ⟨_, e2, d⟩
    refine ⟨h.ob.any I.base h.no (nx f), ?_, ⟨h.cells.len, fun y c e => ?_, h.cells.inj, fun i y e => ?_⟩, ?_, fun a u t e => Un.tupS I.base a u t (h.tup a u t e)⟩
    · obtain ⟨pm, ctv, sl, e⟩ := h.ob.ex
      exact I.base.free f _ e h.no (nx f)
    · obtain ⟨n, v, z⟩ := h.cells.all y c e
      have z2 := cell n z
      obtain ⟨o, e3, _⟩ := z
      exact ⟨I.base.free c o e3 n (nx c), v, z2⟩
    · obtain ⟨c, e1, e2⟩ := h.cells.has i y e
      refine ⟨c, e1, fun v ev => ?_⟩
      obtain ⟨u, r, z⟩ := e2 v ev
      exact ⟨u, r, cell (h.cells.all y c e1).1 z⟩
    · obtain ⟨ps, e1, e2⟩ := h.tab
      obtain ⟨more, e3⟩ := I.base.tbls P ps e1
      refine ⟨_, e3, ?_⟩
      rw [Array.toList_append]
      exact among_more e2
theorem Here.code {P f : Addr} {F : NdefX.NF} {be : Expr} {fr : List Str} {ws : List (Option V)} {pos : Pos} {H0 H : Hp} {s : Shared} {K : PySem.W.Frag} {g : G} {st : Sto} {pr : Program} {w : World} (h : Here P f F be fr ws pos H0 s H) (so : StOk K g H st)
    (hin : (P, F.qual) ∈ Tb.tabs) (hok : HOk pr w H s.heap) : s.heap.CodeRec (.ref F.c) F.qual := by
  obtain ⟨ps, e1, e2⟩ := h.tab
  obtain ⟨ps', h1, _, h3⟩ := so.tb _ hin
  have h1 : H P = some (.tbl ps') := h1
  rw [e1] at h1
  cases h1
  obtain ⟨c, e, e3⟩ := h3 pos _ e2
  cases e
  exact NdefX.codeO_at hok e3
/-- what the one that calls it may rely on -/
def LamP (P : Program) (w : World) (K : PySem.W.Frag) (mg : Str → Option Value) (base : Heap) (T : String → Value) (k : Nat) (f : Addr) (n : Nat) (φ : MF) (Hr : Shared → Hp → Prop) : Prop :=
  ∀ (A : Around) (outer : List PySem.Env) (s : Shared) (H : Hp) (us : List Value) (vs : List V) (Q : VK) (E : XK), Gd A → Room k A → Env0 P w K mg base A outer s H → Hr s H → Vals vs us → spM T K n φ vs H Q E →
    codeAny (model P w) A (.call (.ref f) ⟨us, []⟩) (CR CX0 outer P w H s Q E) s
/-- the lambda's mirror: cs, what it has captured -/
def lamM (n : Nat) (mb : M) (cs : List PV) : MF := fun xs st => (mb (xs.map some ++ (cs.map some ++ List.replicate (n - xs.length - cs.length) none)) st).only
omit [Lm] in
theorem envF_start {K : PySem.W.Frag} {g : G} {H : Hp} {N : List Str} {xs cs : List PV} {vs ws : List V} (l : RVL K g H xs vs) (c : RVL K g H cs ws) :
    letI : Lm := lm0; EnvOk K g H (xs.map some ++ (cs.map some ++ List.replicate (N.length - xs.length - cs.length) none)) (NdefX.startF N vs (ws.map some)) := by
  letI : Lm := lm0
  have h1 := l.length
  have h2 := c.length
  unfold NdefX.startF
  refine ⟨by simp [h1, h2], fun i x q => ?_, fun i a q => nomatch q⟩
  by_cases hi : i < xs.length
  · rw [List.getElem?_append_left (by simpa using hi), List.getElem?_map, Option.map_eq_some_iff] at q
    obtain ⟨y, q1, q2⟩ := q
    cases q2
    obtain ⟨v, e, r⟩ := l.get q1
    refine ⟨v, ?_, r⟩
    rw [List.getElem?_append_left (by simpa [← h1] using hi), List.getElem?_map, e]
    rfl
  · rw [List.getElem?_append_right (by simpa using hi), List.length_map] at q
    have hv : (vs.map some).length = xs.length := by simp [h1]
    rw [List.getElem?_append_right (by rw [hv]; omega), hv]
    by_cases hj : i - xs.length < cs.length
    · rw [List.getElem?_append_left (by simpa using hj), List.getElem?_map, Option.map_eq_some_iff] at q
      obtain ⟨y, q1, q2⟩ := q
      cases q2
      obtain ⟨v, e, r⟩ := c.get q1
      refine ⟨v, ?_, r⟩
      rw [List.getElem?_append_left (by simpa [← h2] using hj), List.getElem?_map, e]
      rfl
    · rw [List.getElem?_append_right (by simpa using hj), List.getElem?_replicate] at q
      split at q <;> cases q
section
variable {P : Program} {w : World} {K : PySem.W.Frag} {mg : Str → Option Value} {base : Heap} {T : String → Value} {k : Nat}
omit [Lm] in
/-- a lambda keeps its mirror, by its body -/
theorem lam_ok {N ps fr : List Str} {F : NdefX.NF} {be : Expr} {f tp : Addr} {ws : List V} {cs : List PV} {pos : Pos} {H0 : Hp} {g0 : G} {mb : M} (S : NdefX.NScope N ps fr F.scope) (hin : (tp, F.qual) ∈ Tb.tabs)
    (hb : ∀ (pm cv ctv : Value) (us : List Value), us.length = ps.length → bindArgs (PySem.W.kla_fn "<lambda>" F.qual F.params be F.scope F.cl pm cv ctv) ⟨us, []⟩ = pure (ps.zip us))
    (caps : RVL K g0 H0 cs ws) (hi : imms cs = true)
    (hbody : ∀ (A : Around) (outer : List PySem.Env) (s : Shared) (H : Hp) (E : XK), Gd (A.deeper (NdefX.envF F f s.heap.objs.size)) → Room k (A.deeper (NdefX.envF F f s.heap.objs.size)) →
      letI : Lm := lm0; EX (NdefX.ncx CX0 P w K mg base N F f A outer s H E).nox T E0 be mb) :
    LamP P w K mg base T (k + 1) f ps.length (lamM N.length mb cs) (Here tp f F be fr (ws.map some) pos H0) := by
  letI : Lm := lm0
  intro A outer s H us vs Q E gd hr e0 here r ⟨hl, g, st, xs, so, l, h⟩
  have lim : s.heap.NoLimit := e0.mod.nolimit.keeps fun b o e => (e0.bs b o e).1
  have cr := here.code so hin e0.hok
  obtain ⟨pm, ctv, sl, ob⟩ := here.ob.ex
  apply PySem.W.kla_callFunE hr.depth ob rfl S.co S.gen rfl cr
  rw [hb pm _ ctv us (by rw [← r.length]; exact hl)]
  refine wpAny_pure (wpAny_newFunctionEnv S.nocell ?_ ?_ S.kind)
  · rintro ⟨n, v⟩ hy
    exact S.par n (List.of_mem_zip hy).1
  intro h₁ hns hsb
  refine ⟨lim.fresh _ hsb, ?_⟩
  have kp : ∀ b o, s.heap.get? b = some o → h₁.get? b = some o := by
    intro b o e
    exact hsb.extBut b o (Nat.ne_of_lt (Heap.lt_size e)) (Heap.get?_push_of_some _ e)
  have I := NdefX.inv_startN (CX := CX0) (w := w) (f := f) (E := E) (tk := s.toks + (ps.zip us).length) S hr.hd e0 hl r here.cells hns kp
  show codeAny _ _ (.expr be (NdefX.envF F f s.heap.objs.size)) _ _
  have en := envF_start (N := N) l (imms_ok (g1 := g) here.tup caps hi)
  have run := (hbody A outer s H E (gd.deeper _) (hr.deeper _)).nox.run [] _ _ H Q I ⟨g, st, _, so, en, by
    unfold lamM at h
    cases q : mb (xs.map some ++ (cs.map some ++ List.replicate (N.length - xs.length - cs.length) none)) st with
    | ok y s2 => rw [q] at h; exact h
    | exc n fs s2 => rw [q] at h; exact h.elim
    | bad => rw [q] at h; exact h.elim⟩
  apply PySem.W.kla_codeExpr
  refine wpAny_mono run ?_ fun e s' hq => hq
  rintro v s' ⟨w', H', J, rv, q⟩
  exact ⟨w', H', J.os, J.bare, J.base, J.hok, rv, q⟩
end
/-! ### called by its name -/
def mLamC (i n : Nat) (φ : MF) (ms : ML) : M := fun env st => match env[i]? with
  | some none => (ms env st).bind fun xs s => fnN n φ xs s
  | _ => .bad
section
variable {X : Cx} {T : String → Value} {E : XK} {k j i n : Nat} {f : Addr} {φ : MF} {Hr : Shared → Hp → Prop} {a : Str} {p pos : Pos} {e : Expr} {es : List Expr} {ms : ML}
theorem x_lam (hlm : Lm.at_ i = some f) (LP : LamP X.prog X.w X.K X.mg X.base T k f n φ Hr) (ho : HrOk f Hr) (h0 : Hr X.s_0 X.H_0) (hex : X.ex = []) (gd : Gd X.A) (hr : Room j X.A) (hk : k ≤ j) (hN : X.N[i]? = some a) (hv : Vis X.env.scope a)
    (ha : AX X T E (e :: es) ms) (hd : (a == ("__debug__" : Str)) = false := by decide) (hcd : (a == ("__classdict__" : Str)) = false := by decide)
    (he : starEach (e :: es) X.env = (false, eval e X.env) :: starEach es X.env := by rfl) (hpl : (backTo pos (starEach es X.env)).any (·.1) = false := by rfl) : EX X T E (.Call (.Name a p) (e :: es) [] pos) (mLamC i n φ ms) := by
  constructor
  intro pins s σ H Q I ⟨g, st, env, so, en, h⟩
  unfold mLamC at h
  split at h
  · rename_i q
    have hs := en.lm i f hlm q
    apply wpAny_Call_Name_kw
    refine thn ((pe_var (pos := p) hN hv hd hcd).run pins s σ H (fun v H1 => v = .ref f ∧ H1 = H) I ⟨.ref f, hs, rfl, rfl⟩) ?_
    rintro u s1 ⟨v, H1, I1, r1, rfl, rfl⟩
    obtain rfl : u = Value.ref f := r1
    refine PySem.W.callWith_F (first := []) (ho.fn _ _ (ho.on X pins σ _ s1 hex h0 I1)) (thn (ha.run pos pins s1 σ _ _ I1 ⟨g, st, env, so, en, h.step⟩) ?_) he hpl
    rintro us s2 ⟨vs, H2, I2, r, g1, st1, xs, e1, so1, l1, h1⟩
    have hh := ho.on X pins σ _ s2 hex h0 I2
    refine ⟨ho.fn _ _ hh, ?_⟩
    simp only [fnN] at h1
    split at h1
    · rename_i hl
      have run := LP X.A X.stack s2 H2 us vs Q E gd (hr.mono hk) I2.env0 hh r ⟨by rw [← l1.length]; exact hl, g1, st1, xs, so1, l1, h1⟩
      refine wpAny_call (codeAny_mono run ?_)
      intro res s' hq
      match res, hq with
      | .error er, hq => exact (show False from hq).elim
      | .ok (.ret u), hq => exact I2.after hq
    · exact h1.elim
  · exact h.elim
end
end Sim

set_option Elab.async false
set_option linter.all false
set_option maxRecDepth 100000
set_option maxHeartbeats 4000000
/-! a def that is handed a lambda: its promise, its call -/
namespace Sim
open PySem PySem.Spec PyProof.Rows L2
variable [Tb] [Lm]

/-- the frame of such a def: the slot n holds the lambda -/
abbrev lmF (n : Nat) (f : Addr) : Lm := ⟨fun i => if i = n then some f else none⟩
omit [Lm] in
theorem env_startL {K : PySem.W.Frag} {g : G} {H : Hp} {N : List Str} {xs : List PV} {vs : List V} {f : Addr} (l : RVL K g H xs vs) (hN : xs.length < N.length) :
    letI : Lm := lmF xs.length f; EnvOk K g H (xs.map some ++ List.replicate (N.length - xs.length) none) (L2.start N (vs ++ [.ref f])) := by
  letI : Lm := lmF xs.length f
  have hl := l.length
  have lenS : (L2.start N (vs ++ [.ref f])).length = N.length := by unfold L2.start; simp; omega
  refine ⟨by rw [lenS]; simp; omega, fun i x q => ?_, fun i a q _ => ?_⟩
  · by_cases hi : i < xs.length
    · rw [List.getElem?_append_left (by simpa using hi), List.getElem?_map, Option.map_eq_some_iff] at q
      obtain ⟨y, q1, q2⟩ := q
      cases q2
      obtain ⟨v, h1, r⟩ := l.get q1
      refine ⟨v, ?_, r⟩
      unfold L2.start
      rw [List.getElem?_append_left (by simp; omega), List.getElem?_map, List.getElem?_append_left (by omega), h1]
      rfl
    · rw [List.getElem?_append_right (by simpa using hi), List.getElem?_replicate] at q
      split at q <;> cases q
  · have q : (if i = xs.length then some f else none) = some a := q
    split at q
    · rename_i e
      cases q
      subst e
      unfold L2.start
      rw [List.getElem?_append_left (by simp; omega), List.getElem?_map, List.getElem?_append_right (by omega), hl]
      simp
    · cases q
/-- what is promised of it, whatever the lambda -/
def FnL (P : Program) (w : World) (K : PySem.W.Frag) (mg : Str → Option Value) (base : Heap) (T : String → Value) (k kl : Nat) (f : Addr) (fd : FuncData) (n : Nat) (ps : List Str) (F : MF → MF) : Prop :=
  ∀ (φ : MF) (la : Addr) (Hr : Shared → Hp → Prop), LamP P w K mg base T kl la 1 φ Hr → HrOk la Hr → ∀ (A : Around) (outer : List PySem.Env) (s : Shared) (H : Hp) (args : Args) (us : List Value) (vs : List V) (Q : VK) (E : XK), Gd A → Room k A →
    Env0 P w K mg base A outer s H → Hr s H → BindsTo s fd args (ps.zip (us ++ [.ref la])) → Vals vs us → spM T K n (F φ) vs H Q E → codeAny (model P w) A (.call (.ref f) args) (CR CX0 outer P w H s Q E) s
structure DfL (P : Program) (w : World) (K : PySem.W.Frag) (mg : Str → Option Value) (base : Heap) (T : String → Value) (x : Str) (k kl n : Nat) (ps : List Str) (F : MF → MF) : Prop where
  ex : ∃ f fd, FnL P w K mg base T k kl f fd n ps F ∧ mg x = some (.ref f) ∧ PySem.W.keepIn K (.ref f) = true ∧ Binds K fd ps []
omit [Lm] in
theorem y_defL {T : String → Value} {P : Program} {w : World} {K : PySem.W.Frag} {mg : Str → Option Value} {base : Heap} {k kl n : Nat} {f : Addr} {x qual : Str} {st : Stmt} {fd : FuncData} {N ps : List Str} {b : MF → MS} (F : Fun K x qual st f fd) (S : FnScope N ps (defScope st)) (hps : ps.length = n + 1)
    (hbody : ∀ (φ : MF) (la : Addr) (Hr : Shared → Hp → Prop), LamP P w K mg base T kl la 1 φ Hr → HrOk la Hr → ∀ (cdv : Value) (A : Around) (outer : List PySem.Env) (s : Shared) (H : Hp) (E : XK), Gd (A.deeper (envOfC qual (defScope st) s.heap.objs.size f cdv)) → Room k (A.deeper (envOfC qual (defScope st) s.heap.objs.size f cdv)) → Hr s H →
      letI : Lm := lmF n la; SXs (cxOf CX0 P w K mg base N qual (defScope st) f cdv A outer s H E).nox T E0 (defBody st) (b φ)) :
    FnL P w K mg base T (k + 1) kl f fd n ps (fun φ => defM N.length (b φ)) := by
  intro φ la Hr LP ho A outer s H args us vs Q E gd hr e0 here hb r ⟨hl, g, st', xs, so, l, h⟩
  letI : Lm := lmF n la
  obtain ⟨oc, od, kV, doc, pm, an, cdv, ct, osl, rfl, lk, hcd⟩ := F.ex
  have old : ∀ b o, base.get? b = some o → s.heap.get? b = some o := fun b o e => (e0.bs b o e).1
  have KX : K.In s.heap := e0.mod.kin.keeps old
  have lim : s.heap.NoLimit := e0.mod.nolimit.keeps old
  have hx : xs.length = n := l.length.trans hl
  have rr : Vals (vs ++ [V.ref la]) (us ++ [Value.ref la]) := r.append (.cons rfl .nil)
  have hl2 : (vs ++ [V.ref la]).length = ps.length := by simp [hl, hps]
  have hN : ps.length ≤ N.length := by
    have := congrArg List.length S.pre
    rw [List.length_take] at this
    omega
  have kinds : ∀ y ∈ ps.zip (us ++ [Value.ref la]), (defScope st).names.lookup y.1 = some .local ∨ ((defScope st).names.lookup y.1 = some .cell ∧ ((cellsFrom (s.heap.objs.size + 1) (defScope st).names []).lookup y.1).isSome = true) := by
    rintro ⟨m, v⟩ hy
    exact (S.par m (List.of_mem_zip hy).1).imp id fun q => ⟨q, PySem.W.cellsFrom_some _ _ _ (.inl q)⟩
  refine codeAny_call_function hr.depth (KX _ _ lk) rfl S.co S.gen rfl (PySem.W.codeRec_of KX hcd) (hb _ _ _ _ ?_)
  refine wpAny_newFunctionEnv_cells S.kind kinds ?_
  intro env he s1 inn
  subst he
  refine ⟨lim.keeps inn.toInCall.keep, codeAny_func ?_⟩
  have I := inv_start (CX := CX0) (P := P) (w := w) (mg := mg) (N := N) (qual := qual) (f := f) (E := E) S hr.hd e0 hl2 rr inn
  have en : EnvOk K g H (xs.map some ++ List.replicate (N.length - xs.length) none) (L2.start N (vs ++ [.ref la])) := by
    have := env_startL (N := N) (f := la) l (by omega)
    rw [hx] at this
    rw [hx]
    exact this
  have body := (hbody φ la Hr LP ho cdv A outer s H E (gd.deeper _) (hr.deeper _) here).nox
  refine wpAny_mono (body.run [] s1 _ H { nx := fun _ H' => Q .non H', rt := Q } I ⟨g, st', _, so, en, ?_⟩) ?_ fun e s' hs => hs
  · unfold defM at h
    dsimp only at h
    show okS T K E0 g H (b φ (xs.map some ++ List.replicate (N.length - xs.length) none) st') _
    cases q : b φ (xs.map some ++ List.replicate (N.length - xs.length) none) st' with
    | rt y s => rw [q] at h; exact fun g' H' v e s1 r => gc_ok so e s1 r h
    | nx e s => rw [q] at h; exact fun g' H' σ' e s1 _ => gc_ok so e s1 .non h
    | bk e s => rw [q] at h; exact h.elim
    | ct e s => rw [q] at h; exact h.elim
    | exc n fs s => rw [q] at h; exact h.elim
    | bad => rw [q] at h; exact h.elim
  · intro fl s' hs
    match fl, hs with
    | .ret u, ⟨v, σ', H', J, rv, q⟩ => exact ⟨v, H', J.os, J.bare, J.base, J.hok, rv, q⟩
    | .next, ⟨σ', H', J, q⟩ => exact ⟨V.non, H', J.os, J.bare, J.base, J.hok, rfl, q⟩
    | .brk, ⟨_, _, _, q⟩ => exact q.elim
    | .cont, ⟨_, _, _, q⟩ => exact q.elim

/-! ### a def that makes lambdas: its code object is c -/
theorem fnG_ofC {c : Addr} {CX : CXT} {P : Program} {w : World} {K : PySem.W.Frag} {mg : Str → Option Value} {base : Heap} {k : Nat} {f : Addr} {x qual : Str} {st : Stmt} {fd : FuncData} {N ps : List Str} {sp : Sp} (F : Fun K x qual st f fd) (hc : fd.code = .ref c) (S : FnScope N ps (defScope st))
    (many : ∀ vs H Q E, sp vs H Q E → vs.length = ps.length)
    (hbody : ∀ (cdv : Value) (A : Around) (outer : List PySem.Env) (s : Shared) (H : Hp) (vs : List V) (Q : VK) (E : XK), Gd (A.deeper (envOfC qual (defScope st) s.heap.objs.size f cdv)) → Room k (A.deeper (envOfC qual (defScope st) s.heap.objs.size f cdv)) → cdv = .ref c → sp vs H Q E →
      ∃ t, PSs (cxOf CX P w K mg base N qual (defScope st) f cdv A outer s H E) (defBody st) t ∧ t { nx := fun _ H' => Q .non H', rt := Q } (L2.start N vs) H) : FnG P w K mg base CX (k + 1) f fd ps sp := by
  obtain ⟨oc, od, kV, doc, pm, an, cdv, ct, osl, rfl, lk, hcd⟩ := F.ex
  constructor
  · exact many
  intro A outer s H args us vs Q E gd hr e0 hb r hsp
  have hl := many _ _ _ _ hsp
  have old : ∀ b o, base.get? b = some o → s.heap.get? b = some o := fun b o e => (e0.bs b o e).1
  have KX : K.In s.heap := e0.mod.kin.keeps old
  have lim : s.heap.NoLimit := e0.mod.nolimit.keeps old
  have hkind : ∀ y ∈ ps.zip us, (defScope st).names.lookup y.1 = some .local ∨ ((defScope st).names.lookup y.1 = some .cell ∧ ((cellsFrom (s.heap.objs.size + 1) (defScope st).names []).lookup y.1).isSome = true) := by
    rintro ⟨n, v⟩ hy
    have q := S.par n (List.of_mem_zip hy).1
    exact q.imp id fun q => ⟨q, PySem.W.cellsFrom_some _ _ _ (.inl q)⟩
  have cr := PySem.W.codeRec_of KX hcd
  refine codeAny_call_function hr.depth (KX _ _ lk) rfl S.co S.gen rfl cr (hb _ _ _ _ ?_)
  refine wpAny_newFunctionEnv_cells S.kind hkind ?_
  intro env he s1 xx
  subst he
  refine ⟨lim.keeps xx.toInCall.keep, codeAny_func ?_⟩
  obtain ⟨t, ht, hq⟩ := hbody cdv A outer s H vs Q E (gd.deeper _) (hr.deeper _) hc hsp
  have I := inv_start (CX := CX) (P := P) (w := w) (mg := mg) (N := N) (qual := qual) (f := f) (E := E) S hr.hd e0 hl r xx
  have run := ht.run [] s1 (L2.start N vs) H _ I hq
  refine wpAny_mono run ?_ fun e s' hs => hs
  intro fl s' hs
  match fl, hs with
  | .ret u, ⟨v, σ', H', J, rv, q⟩ => exact ⟨v, H', J.os, J.bare, J.base, J.hok, rv, q⟩
  | .next, ⟨σ', H', J, q⟩ => exact ⟨V.non, H', J.os, J.bare, J.base, J.hok, rfl, q⟩
  | .brk, ⟨_, _, _, q⟩ => exact q.elim
  | .cont, ⟨_, _, _, q⟩ => exact q.elim

omit [Lm] in
theorem y_defC {c : Addr} {T : String → Value} {P : Program} {w : World} {K : PySem.W.Frag} {mg : Str → Option Value} {base : Heap} {k : Nat} {f : Addr} {x qual : Str} {st : Stmt} {fd : FuncData} {N ps : List Str} {b : MS} (F : Fun K x qual st f fd) (hc : fd.code = .ref c) (S : FnScope N ps (defScope st))
    (hbody : ∀ (cdv : Value) (A : Around) (outer : List PySem.Env) (s : Shared) (H : Hp) (E : XK), Gd (A.deeper (envOfC qual (defScope st) s.heap.objs.size f cdv)) → Room k (A.deeper (envOfC qual (defScope st) s.heap.objs.size f cdv)) → cdv = .ref c →
      letI : Lm := lm0; SXs (cxOf CX0 P w K mg base N qual (defScope st) f cdv A outer s H E).nox T E0 (defBody st) b) :
    FnG P w K mg base CX0 (k + 1) f fd ps (spM T K ps.length (defM N.length b)) := by
  letI : Lm := lm0
  refine fnG_ofC F hc S (fun vs H Q E h => h.1) fun cdv A outer s H vs Q E gd hr hcd h => ?_
  obtain ⟨hl, g, st', xs, so, l, h⟩ := h
  refine ⟨_, (hbody cdv A outer s H E gd hr hcd).nox, g, st', _, so, env_start (N := N) l, ?_⟩
  unfold defM at h
  show okS T K E0 g H (b (xs.map some ++ List.replicate (N.length - xs.length) none) st') _
  cases q : b (xs.map some ++ List.replicate (N.length - xs.length) none) st' with
  | rt y s => rw [q] at h; exact fun g' H' v e s1 r => gc_ok so e s1 r h
  | nx e s => rw [q] at h; exact fun g' H' σ' e s1 _ => gc_ok so e s1 .non h
  | bk e s => rw [q] at h; exact h.elim
  | ct e s => rw [q] at h; exact h.elim
  | exc n fs s => rw [q] at h; exact h.elim
  | bad => rw [q] at h; exact h.elim

/-! ### the call, with a lambda written there -/
def capsOf (env : Lo) (js : List Nat) : Option (List PV) := mapO (fun j => match env[j]? with
  | some (some x) => some x
  | _ => none) js
def mAppL (n : Nat) (mb : M) (js : List Nat) (F : MF → MF) (me : M) : M := fun env st => (me env st).bind fun x s1 => match capsOf env js with
  | some cs => if imms cs = true then F (lamM n mb cs) [x] s1 else .bad
  | none => .bad
theorem caps_ok {K : PySem.W.Frag} {g : G} {H : Hp} {env : Lo} {σ : L2.St} (en : EnvOk K g H env σ) : ∀ {js : List Nat} {cs : List PV}, capsOf env js = some cs → ∃ ws, RVL K g H cs ws ∧ js.map (NdefX.slotAt σ) = ws.map some
  | [], _, e => by cases e; exact ⟨[], .nil, rfl⟩
  | j :: js, cs, e => by
    unfold capsOf at e
    simp only [mapO] at e
    split at e
    · rename_i y ys e1 e2
      cases e
      split at e1
      · rename_i x q
        cases e1
        obtain ⟨v, h1, h2⟩ := en.at_ j _ q
        obtain ⟨ws, h3, h4⟩ := caps_ok en (js := js) e2
        exact ⟨v :: ws, .cons h2 h3, by simp only [List.map_cons, h4, NdefX.slotAt_of h1]⟩
      · cases e1
    · cases e
section
variable {X : Cx} {T : String → Value} {E : XK} {k kl j : Nat} {ps : List Str} {F : MF → MF} {x px : Str} {N fr : List Str} {js : List Nat} {p pos lpos : Pos} {e be : Expr} {me mb : M} {params : Arguments} {scope : Scope} {c tp : Addr}
theorem x_callL (d : DfL X.prog X.w X.K X.mg X.base T x k (kl + 1) 1 ps F) (gd : Gd X.A) (hr : Room j X.A) (hj : k ≤ j) (hps : ps.length = 2) (hg : Gl X x) (TB : LamX.TabB X.base X.mg c tp) (hcode : X.env.code = .ref c) (hin : (tp, X.env.qual ++ "<lambda>") ∈ Tb.tabs)
    (hu : ∀ p ∈ Tb.tabs, p.1 = tp → p.2 = X.env.qual ++ "<lambda>") (S : NdefX.NScope N [px] fr scope) (hsc : NdefX.ndefB X.env.scope scope fr = true) (hjs : js.map (fun j => X.N[j]?) = fr.map some)
    (hdef : defaultsOf params X.env = ([], [])) (hbind : ∀ (q : Str) (cl : List (Str × Addr)) (pm cv ctv : Value) (u : Value), bindArgs (PySem.W.kla_fn "<lambda>" q params be scope cl pm cv ctv) ⟨[u], []⟩ = pure [(px, u)])
    (ha : EX X T E e me)
    (hbody : ∀ (cl : List (Str × Addr)) (c' f : Addr) (A : Around) (outer : List PySem.Env) (s : Shared) (H : Hp) (E : XK), Gd (A.deeper (NdefX.envF ⟨"<lambda>", X.env.qual ++ "<lambda>", params, [], scope, cl, c'⟩ f s.heap.objs.size)) →
      Room kl (A.deeper (NdefX.envF ⟨"<lambda>", X.env.qual ++ "<lambda>", params, [], scope, cl, c'⟩ f s.heap.objs.size)) →
      letI : Lm := lm0; EX (NdefX.ncx CX0 X.prog X.w X.K X.mg X.base N ⟨"<lambda>", X.env.qual ++ "<lambda>", params, [], scope, cl, c'⟩ f A outer s H E).nox T E0 be mb)
    (hdb : (x == ("__debug__" : Str)) = false := by decide) (he : starEach [e, Expr.Lambda params be scope lpos] X.env = (false, eval e X.env) :: starEach [Expr.Lambda params be scope lpos] X.env := by rfl) :
    EX X T E (.Call (.Name x p) [e, .Lambda params be scope lpos] [] pos) (mAppL N.length mb js F me) := by
  obtain ⟨f, fd, h1, h2, h3, h4⟩ := d.ex
  constructor
  intro pins s σ H Q I ⟨g, st, env, so, en, h⟩
  unfold mAppL at h
  apply wpAny_Call_Name_kw
  refine ld_glob I hg h2 ?_ hdb
  refine PySem.W.callWith_K (h₀ := X.base) I.ok.mod.kin h3 ?_ he (by rfl)
  rw [he]
  show wpAny _ _ (spliced ((false, eval e X.env) :: backTo pos (starEach [Expr.Lambda params be scope lpos] X.env))) _ _ s
  refine Calls.spliced_cons (thn (ha.run pins s σ H _ I ⟨g, st, env, so, en, h.step⟩) ?_)
  rintro u s1 ⟨v, H1, I1, r1, g1, st1, y, e1, so1, ry, h5⟩
  cases hc : capsOf env js with
  | none => rw [hc] at h5; exact h5.elim
  | some cs =>
    rw [hc] at h5
    simp only at h5
    split at h5
    · rename_i hi
      show wpAny _ _ (spliced ((false, eval (.Lambda params be scope lpos) X.env) :: backTo pos (starEach [] X.env))) _ _ s1
      have free := NdefX.ndef_free hsc
      refine Calls.spliced_cons (lam_mk I1 TB hcode (so1.tb _ hin) hdef (fun z hz ez => (free z hz ez).elim (fun q => I1.ok.has _ (.inl q)) fun q => I1.ok.has _ (.inr q)) ?_)
      intro la c' H2 s2 I2 gw t2 lo fn tab
      refine Calls.spliced_nil ⟨I2.kIn, ?_⟩
      show wpAny _ _ (call (.ref f) [u, .ref la]) _ _ _
      have e2 := gw.ext so1
      have so2 := gw.keep so1 hu t2
      obtain ⟨ws, rc, ew⟩ := caps_ok (en.mono (e1.trans e2)) hc
      have cells := NdefX.cells_of I2 (NdefX.Caps.made (fr := fr) (js := js) I2.ok free (NdefX.ndef_fr hsc) hjs)
      rw [ew] at cells
      have lp : LamP X.prog X.w X.K X.mg X.base T (kl + 1) la 1 (lamM N.length mb cs) _ :=
        lam_ok (ps := [px]) (F := ⟨"<lambda>", X.env.qual ++ "<lambda>", params, [], scope, cloFrom X.env.cells scope.names [], c'⟩) (f := la) (pos := lpos) (H0 := H2) S hin (fun pm cv ctv us hl => by
          obtain ⟨u, rfl⟩ := List.length_eq_one_iff.mp hl
          exact hbind _ _ _ _ _ u) rc hi fun A outer s H E gd hr => hbody _ c' la A outer s H E gd hr
      have bnd : BindsTo s2 fd ⟨[u, .ref la], []⟩ (ps.zip ([u] ++ [.ref la])) := by
        have b := h4 s2 [u, .ref la] I2.kIn (by simp [hps])
        rw [List.append_nil] at b
        exact b
      have run := h1 (lamM N.length mb cs) la _ lp here_ok X.A X.stack s2 H2 ⟨[u, .ref la], []⟩ [u] [v] Q E gd (hr.mono hj) I2.env0 ⟨lo, fn, cells, tab, fun _ _ _ z => z⟩ bnd (.cons r1 .nil)
        ⟨rfl, g1, st1, [y], so2, .cons (ry.mono e2) .nil, okR.ext h5 e2⟩
      refine wpAny_call (codeAny_mono run ?_)
      intro res s' hq
      match res, hq with
      | .error er, hq => exact (show False from hq).elim
      | .ok (.ret u), hq => exact I2.after hq
    · exact h5.elim
end
end Sim

set_option Elab.async false
set_option linter.all false
set_option maxRecDepth 100000
set_option maxHeartbeats 4000000
/-! the law's end, where defs make lambdas -/
namespace Sim
open PySem PySem.Spec PyProof.Rows L2

/-- a def that makes lambdas: its name, its code object, the table of that, the lambda's name -/
structure Mk where
  x : Str
  c : Addr
  p : Addr
  q : Str
abbrev tbs (ms : List Mk) : Tb := ⟨ms.map fun m => (m.p, m.q)⟩
theorem law_endT {T : World → String → Value} {l : PySem.W.OpenLaw} {n k : Nat} {q : Program} {loose : List Str} {XP : (Str → Option Value) → Heap → Prop} {YP : World → Heap → Prop} {d : DefRec} {K : Params → PySem.W.Frag} {x : Str} {F : MF} {names : List Str} (hq : ∀ y ∈ names, ((recsOf q).find? fun e => e.name == y).isSome = true)
    (hn : l.most = some n) (hn2 : n ≤ sizeLine) (hdf : d.params.defaults = []) (hr : Room k callerA) (hY : ∀ (w : World) (h : Heap), YP w h → (K w.params).In h)
    (hF : ∀ (w : World) (mg : Str → Option Value) (fa : Addr) (h : Heap), (K w.params).In h → h.Ns mainGlobals mg → mg d.name = some (.ref fa) →
      ∃ (ms : List Mk) (fd : FuncData), (∀ m ∈ ms, m.x ∈ names ∧ PySem.W.tabIn (K w.params) m.x = some (m.c, m.p) ∧ (K w.params).lookup m.p = none) ∧ (∀ (s : Shared) (u : Value), BindsTo s fd ⟨[u], []⟩ [(x, u)]) ∧
        ∀ base : Heap, (K w.params).In base → base.Ns mainGlobals mg → (∀ m ∈ ms, LamX.TabB base mg m.c m.p) → FnG l.prog w (K w.params) mg base CX0 k fa fd [x] (@spM (tbs ms) (T w) (K w.params) 1 F))
    (good : ∀ ns : List Int, ns.length ≤ n → ∃ st, F [scriptP ns] [] = .ok (.bl true) st) :
    PySem.W.WalkO q loose XP YP l.row.toRowW d [] (fun f vs => PySem.call f vs) := by
  refine Att.attach_call hn hdf ?_
  intro w s₀ s₁ mg mb fa o pm cd doc a vs ns G Y ho hd hcd hmg hobj hints hlen hg
  have KX := hY w _ Y
  obtain ⟨ms, fd, hms, hb, hfn⟩ := hF w mg fa _ KX G.T.g hmg
  letI : Tb := tbs ms
  letI : Lm := lm0
  have rv := vals_ints hints
  have lenV := hints.length
  have hl : ns.length ≤ sizeLine := Nat.le_trans hlen hn2
  -- the tables
  have tb : ∀ m ∈ ms, PySem.W.CodeHd s₁.heap m.c m.p ∧ s₁.heap.get? m.p = some { cls := .none, data := .fields #[] } := by
    intro m hm
    obtain ⟨h1, h2, _⟩ := hms m hm
    obtain ⟨dm, hdm⟩ := Option.isSome_iff_exists.mp (hq _ h1)
    exact PySem.W.tab_of G.T KX hdm h2
  have tobj : ∀ b ∈ ms.map (·.p), s₁.heap.get? b = some { cls := .none, data := .fields #[] } ∧ (K w.params).lookup b = none := by
    intro b hb
    obtain ⟨m, hm, rfl⟩ := List.mem_map.mp hb
    exact ⟨(tb m hm).2, (hms m hm).2.2⟩
  have at_ : a ∉ ms.map (·.p) := by
    intro z
    have e := (tobj a z).1
    rw [hobj] at e
    cases (show Data.seq vs.toArray _ = Data.fields #[] from congrArg Obj.data (Option.some.inj e))
  -- what is tracked: the tables, and the script, if it is no object of the module's own
  have main : ∀ H : Hp, (∀ b ∈ ms.map (·.p), H b = some (.tbl #[])) → (∀ b u, H b = some u → (b = a ∧ u = .frz { cls := .type "list", data := .seq vs.toArray } (.lst (ns.map V.int)) ∧ (K w.params).lookup a = none) ∨ (b ∈ ms.map (·.p) ∧ u = .tbl #[])) → (∃ g : Sim.G, StOk (K w.params) g H [] ∧ RV (K w.params) g H (scriptP ns) (.ref a)) →
      codeAny (model l.prog w) callerA (.call (.ref fa) ⟨[.ref a], []⟩) (fun r s' => r = .ok (.ret (.bool true)) ∧ OldK s₁.heap s'.heap ∧ s'.os = s₁.os ∧ AllBare s'.gens) s₁ := by
    intro H hT hH ⟨g, so, rs⟩
    have hid : ∀ {b : Addr} {ob : Obj}, s₁.heap.get? b = some ob → H b = none → (hidT s₁.heap H).get? b = some ob := fun e n => hidT_get e n
    have free : ∀ {b : Addr} {ob : Obj}, s₁.heap.get? b = some ob → (∀ us n, ob.data ≠ .seq us n) → ob.data ≠ .fields #[] → H b = none := by
      intro b ob e n1 n2
      cases qq : H b with
      | none => rfl
      | some u =>
        rcases hH b u qq with ⟨rfl, _, _⟩ | ⟨z, _⟩
        · rw [hobj] at e; cases e
          exact (n1 _ _ rfl).elim
        · rw [(tobj b z).1] at e; cases e
          exact (n2 rfl).elim
    have ns' : ∀ {b : Addr} {m : Str → Option Value}, s₁.heap.Ns b m → (hidT s₁.heap H).Ns b m := by
      rintro b m ⟨ob, es, ep, e, dd, r⟩
      exact ⟨ob, es, ep, hid e (free e (fun us n z => by rw [dd] at z; cases z) fun z => by rw [dd] at z; cases z), dd, r⟩
    have hKb : (K w.params).In (hidT s₁.heap H) := by
      intro b ob e
      refine hid (KX b ob e) ?_
      cases qq : H b with
      | none => rfl
      | some u =>
        rcases hH b u qq with ⟨rfl, _, z⟩ | ⟨z, _⟩
        · rw [z] at e; cases e
        · rw [(tobj b z).2] at e; cases e
    have hM : Mod (K w.params) mg (hidT s₁.heap H) := by
      refine ⟨hKb, ns' G.T.g, ⟨mb, ns' G.T.b, G.T.builtins⟩, ?_⟩
      obtain ⟨mc, h1, h2⟩ := G.T.nolimit
      exact ⟨mc, ns' h1, h2⟩
    have hokH : HOk l.prog w H s₁.heap := by
      intro b u e
      rcases hH b u e with ⟨rfl, rfl, _⟩ | ⟨z, rfl⟩
      · exact ⟨hobj, by rw [List.length_map]; exact hl, vs, _, rv, hobj⟩
      · exact (tobj b z).1
    have tabB : ∀ m ∈ ms, LamX.TabB (hidT s₁.heap H) mg m.c m.p := by
      intro m hm
      obtain ⟨hc, hp⟩ := tb m hm
      refine ⟨?_, ?_, ?_⟩
      · obtain ⟨oc, us, file, tf, flags, tg, inF, text, tt, f1, f2, f3, f4, rest⟩ := hc
        refine ⟨oc, us, file, tf, flags, tg, inF, text, tt, hid f1 (free f1 (fun vs n z => by rw [f3] at z; cases z) fun z => ?_), f2, f3, f4, rest⟩
        rw [f3] at z
        cases z
        simp at f4
      · obtain ⟨bm, ob, b1, b2, b3, b4, b5, b6⟩ := G.T.bmain
        refine ⟨bm, ob, b1, b2, ?_, ?_, hid b3 (free b3 (fun vs n z => by rw [b6] at z; cases z) fun z => by rw [b6] at z; cases z), b4, b5, b6⟩
        · intro z
          obtain ⟨o2, es, ep, e2, d2, _⟩ := G.T.g
          rw [z, e2] at b3
          cases b3
          rw [b6] at d2
          cases d2
        · intro z
          rw [z, hp] at b3
          cases b3
          cases b6
      · intro z
        obtain ⟨o2, es, ep, e2, d2, _⟩ := G.T.g
        rw [z, hp] at e2
        cases e2
        cases d2
    have e0 : Env0 l.prog w (K w.params) mg (hidT s₁.heap H) callerA [] s₁ H :=
      ⟨rfl, hM, fun b ob e => of_hidT e, Nat.le_of_eq (hidT_size _ _), trivial, fun b hb => absurd (show b ∈ ([] : List Addr) from hb) (by simp), hokH, .of_eq hg⟩
    obtain ⟨st, hgood⟩ := good ns hlen
    have sp : spM (T w) (K w.params) 1 F [.ref a] H (fun v _ => v = .bl true) E0 := by
      refine ⟨rfl, g, [], [scriptP ns], so, .cons rs .nil, ?_⟩
      rw [hgood]
      intro g' H' v _ _ r
      cases r
      rfl
    have run := (hfn _ hKb (ns' G.T.g) tabB).go callerA [] s₁ H ⟨[.ref a], []⟩ [.ref a] [.ref a] _ E0 rfl hr e0 (hb s₁ (.ref a)) (.cons rfl .nil) sp
    refine codeAny_mono run ?_
    intro r s' h
    match r, h with
    | .ok (.ret u), ⟨v, H', os, bare, un, hok', r', qv⟩ =>
      have qv' : v = .bl true := qv
      subst qv'
      obtain rfl : u = Value.bool true := r'
      have more : ∀ b ∈ ms.map (·.p), ∃ ps : Array Value, s'.heap.get? b = some { cls := .none, data := .fields ps } := by
        intro b hb
        obtain ⟨ps, z⟩ := un.tbls b #[] (hT b hb)
        exact ⟨_, hok' b _ z⟩
      have kept : ∀ b ob, b ∉ ms.map (·.p) → s₁.heap.get? b = some ob → s'.heap.get? b = some ob := by
        intro b ob nb e
        cases qq : H b with
        | none => exact un.keep b ob e qq (by intro z; exact absurd (show b ∈ ([] : List Addr) from z) (by simp)) (by simp)
        | some u =>
          rcases hH b u qq with ⟨rfl, rfl, _⟩ | ⟨z, _⟩
          · have z2 := un.frzs b _ _ qq
            obtain ⟨e2, _⟩ := hok' b _ z2
            rw [hobj] at e; cases e
            exact e2
          · exact absurd z nb
      refine ⟨rfl, ⟨fun b ob e => ?_, fun b ob e => ?_⟩, os, bare⟩
      · by_cases hb : b ∈ ms.map (·.p)
        · obtain ⟨ps, hps⟩ := more b hb
          rw [(tobj b hb).1] at e
          cases e
          obtain ⟨m, hm, rfl⟩ := List.mem_map.mp hb
          obtain ⟨hc, hp⟩ := tb m hm
          exact .inr (.inl ⟨(hc.tab hp).isCodeTable, rfl, #[], ps, rfl, by rw [Array.empty_append]; exact hps⟩)
        · exact .inl (kept b ob hb e)
      · by_cases hb : b ∈ ms.map (·.p)
        · obtain ⟨ps, hps⟩ := more b hb
          exact ⟨_, hps⟩
        · exact ⟨ob, kept b ob hb e⟩
  have inil : ∀ {H : Hp} (F : Addr → Prop), (∀ a, F a → nt H a) → (∀ b ∈ ms.map (·.p), H b = some (.tbl #[])) → StOk (K w.params) ⟨0, fun _ => 0, F, fun _ => False⟩ H [] := by
    intro H F hF hT
    refine ⟨rfl, fun i j hi => absurd hi (Nat.not_lt_zero _), fun i m e => by simp at e, hF, fun a h => h.elim, fun i m e => by simp at e, ?_⟩
    intro p hp
    obtain ⟨m, hm, rfl⟩ := List.mem_map.mp (show p ∈ ms.map fun m => (m.p, m.q) from hp)
    exact .nil (hT m.p (List.mem_map.mpr ⟨m, hm, rfl⟩))
  cases hk : (K w.params).lookup a with
  | some ob =>
    have e := KX a ob hk
    rw [hobj] at e
    cases e
    refine main (fun b => if b ∈ ms.map (·.p) then some (.tbl #[]) else none) (fun b hb => if_pos hb) (fun b u e => ?_) ⟨_, inil (fun _ => False) (fun _ h => h.elim) (fun b hb => if_pos hb), .rolK (vs := ns.map V.int) (fun H' => .inr ⟨_, vs.toArray, _, hk, rfl, rfl, rfl, by rw [List.size_toArray, lenV]; exact hl, by simpa using rv⟩) (fun H' => .kList hk rfl) (RVL.ofInts ns)⟩
    by_cases hb : b ∈ ms.map (·.p)
    · rw [if_pos hb] at e
      cases e
      exact .inr ⟨hb, rfl⟩
    · rw [if_neg hb] at e
      cases e
  | none =>
    have hT : ∀ b ∈ ms.map (·.p), (fun b => if b = a then some (HO.frz { cls := .type "list", data := .seq vs.toArray } (.lst (ns.map V.int))) else if b ∈ ms.map (·.p) then some (.tbl #[]) else none) b = some (.tbl #[]) := by
      intro b hb
      have ne : b ≠ a := fun z => at_ (z ▸ hb)
      show (if b = a then _ else _) = _
      rw [if_neg ne, if_pos hb]
    refine main _ hT ?_ ?_
    · intro b u e
      by_cases hb : b = a
      · rw [if_pos hb] at e
        cases e
        exact .inl ⟨hb, rfl, hk⟩
      · rw [if_neg hb] at e
        by_cases hb2 : b ∈ ms.map (·.p)
        · rw [if_pos hb2] at e
          cases e
          exact .inr ⟨hb2, rfl⟩
        · rw [if_neg hb2] at e
          cases e
    · refine ⟨_, inil (fun b => b = a) ?_ hT, .rol rfl (if_pos rfl) (RVL.ofInts ns)⟩
      intro b hb
      exact ⟨_, if_pos hb, nofun⟩
end Sim

set_option Elab.async false
set_option linter.all false
set_option maxRecDepth 100000
set_option maxHeartbeats 4000000
/-! dicts of the store; lists of a dict's keys; extend -/
namespace Sim
open PySem PySem.Spec PyProof.Rows L2
variable [Tb] [Lm]
section
variable {T : String → Value} {K : PySem.W.Frag} {E : XK} {g : G} {H : Hp} {st : Sto} {Q : VK}
/-- a new dict of the store -/
theorem giveDM {kvs : List (Key × PV)} {ws : List (Key × V)} (s : StOk K g H st) (r : RVK K g H kvs ws) (h : okR T K (rV K) g H (.ok (.ref st.length) (st ++ [.dct kvs])) Q E) : ∀ p, H p = none → Q (.ref p) (upd H p (.dK ws)) := fun p hp => by
  have x : Ext g H (g.put p) (upd H p (.dK ws)) := ext_put s hp
  refine okR.finE h x (st_put s hp ⟨ws, upd_same, r.mono x⟩) ?_
  have e : RV K (g.put p) (upd H p (.dK ws)) (.ref g.n) (.ref ((g.put p).f g.n)) := .ref (Nat.lt_succ_self g.n)
  rw [G.put_new, s.len] at e
  exact e
theorem dct_of {k : Nat} {v : V} (s : StOk K g H st) {xs : List (Key × PV)} (q : st[k]? = some (.dct xs)) (r : RV K g H (.ref k) v) : v = .ref (g.f k) ∧ ∃ ws, H (g.f k) = some (.dK ws) ∧ RVK K g H xs ws := by
  cases r with
  | ref hk => exact ⟨rfl, s.at_ k _ q⟩
theorem RVK.length : ∀ {xs : List (Key × PV)} {ws : List (Key × V)}, RVK K g H xs ws → xs.length = ws.length
  | _, _, .nil => rfl
  | _, _, .cons _ l => by simp [l.length]
def kP : Key → PV
  | .inl i => .int i
  | .inr x => .str x
theorem keys_ok : ∀ {kvs : List (Key × PV)} {ws : List (Key × V)}, RVK K g H kvs ws → RVL K g H (kvs.map fun kv => kP kv.1) (ws.map fun kv => kV kv.1)
  | _, _, .nil => .nil
  | _, _, .cons (k := k) _ l => by
    refine .cons ?_ (keys_ok l)
    cases k with
    | inl i => exact .int i
    | inr x => exact .str x
theorem keys_eq : ∀ {kvs : List (Key × PV)} {ws : List (Key × V)}, RVK K g H kvs ws → kvs.map (·.1) = ws.map (·.1)
  | _, _, .nil => rfl
  | _, _, .cons _ l => by simp [keys_eq l]
end
def mDnewM : M := fun _ st => .ok (.ref st.length) (st ++ [.dct []])
def fitN (n : Nat) : Bool := decide (n < 1000000)
theorem fitN_ok {n : Nat} (h : fitN n = true) : n < sizeLine := by
  rw [sizeLine_eq]
  have := of_decide_eq_true h
  omega
/-- d[k] = v -/
def sPutD (o i v : PV) (st : Sto) : Res Unit := match o with
  | .ref k => match st[k]? with
    | some (.dct kvs) => match toKey i with
      | some q => if fitN kvs.length = true then .ok () (st.set k (.dct (putP kvs q v))) else .bad
      | none => .bad
    | _ => .bad
  | _ => .bad
def cPutD (o i v : M) : MS := fun env st => match (v env st).bind fun x s1 => (o env s1).bind fun y s2 => (i env s2).bind fun z s3 => sPutD y z x s3 with
  | .ok _ s => .nx env s
  | .exc n fs s => .exc n fs s
  | .bad => .bad
/-- d.setdefault(k, v) -/
def sSetd (o i v : PV) (st : Sto) : Res PV := match o with
  | .ref k => match st[k]? with
    | some (.dct kvs) => match toKey i with
      | some q => if fitN kvs.length = true then (match lookK q kvs with
        | some x => .ok x st
        | none => .ok v (st.set k (.dct (putP kvs q v)))) else .bad
      | none => .bad
    | _ => .bad
  | _ => .bad
def mSetd (o i v : M) : M := fun env st => (o env st).bind fun x s1 => if isDct x s1 = true then (i env s1).bind fun y s2 => (v env s2).bind fun z s3 => sSetd x y z s3 else .bad
section
variable {X : Cx} {T : String → Value} {E : XK} {e o i : Expr} {m mo mi : M} {pos : Pos}
theorem x_dnewM : EX X T E (.Dict [] [] pos) mDnewM :=
  pe_imp pe_dnewK fun σ H Q ⟨g, st, env, s, en, h⟩ => giveDM s .nil h
theorem put_ok {g : G} {H : Hp} {st : Sto} {k : Nat} {kvs : List (Key × PV)} {q : Key} {x : PV} {v : V} (s : StOk X.K g H st) (e : st[k]? = some (.dct kvs)) (rx : RV X.K g H x v) : ∃ ws, H (g.f k) = some (.dK ws) ∧ RVK X.K g H kvs ws ∧
    Ext g H g (upd H (g.f k) (.dK (putK ws q v))) ∧ StOk X.K g (upd H (g.f k) (.dK (putK ws q v))) (st.set k (.dct (putP kvs q x))) := by
  obtain ⟨ws, hH, l⟩ := s.at_ k _ e
  have xe := ext_write (o := .dK (putK ws q v)) s e rfl
  exact ⟨ws, hH, l, xe, st_write s e rfl ⟨_, upd_same, (RVK.put rx q l).mono xe⟩⟩
theorem s_putD {k : Nat} {pos' : Pos} (hr : Room k X.A) (hv : EX X T E e m) (ho : EX X T E o mo) (hi : EX X T E i mi) (hs : swapsWithSole [.Subscript o i pos'] e pos.line X.env = pure false := by rfl) (hw : swappedStores [.Subscript o i pos'] e X.env = pure none := by rfl)
    (h1 : (assignEach [.Subscript o i pos'] X.env).map (·.2) = [assign (.Subscript o i pos') X.env] := by rfl)
    (hb : ∀ v, assign (.Subscript o i pos') X.env v = (do
      let ov ← holding [v] (eval o X.env)
      let iv ← holding [v, ov] (eval i X.env)
      standAt pos'
      holding [v, ov, iv] (setItem ov iv v)
      release [v, ov, iv] []) := by intro _; rfl) : SX X T E (.Assign [.Subscript o i pos'] e pos) (cPutD mo mi m) := by
  refine ps_imp (ps_asg hv (pg_sub ho hi (set_dict (by have := hu65 hr; omega)) hb) hs hw h1) fun D σ H ⟨g, st, env, s, en, h⟩ => ?_
  have hh : okR T X.K (fun g H _ (_ : Unit) => EnvOk X.K g H env σ) g H ((m env st).bind fun x s1 => (mo env s1).bind fun y s2 => (mi env s2).bind fun z s3 => sPutD y z x s3) (fun _ H' => D.nx σ H') E := by
    simp only [cPutD] at h
    generalize hq : ((m env st).bind fun x s1 => (mo env s1).bind fun y s2 => (mi env s2).bind fun z s3 => sPutD y z x s3) = r at h
    cases r with
    | ok u s' => exact fun g' H' _ e1 s1 en1 => h g' H' σ e1 s1 en1
    | exc n fs s' => exact h
    | bad => exact h
  refine tv_of s en hh fun g1 H1 st1 x v e1 s1 en1 r1 h1 => tv_of s1 en1 h1 fun g2 H2 st2 y w e2 s2 en2 r2 h2 => tv_of s2 en2 h2 fun g3 H3 st3 z u e3 s3 en3 r3 h3 => ?_
  unfold sPutD at h3
  split at h3
  · split at h3
    · rename_i n kvs q
      split at h3
      · rename_i kk hk
        split at h3
        · rename_i hf
          cases toKey_ok r3 hk
          obtain ⟨rfl, _⟩ := dct_of s3 q (r2.mono e3)
          obtain ⟨ws, hH, l, xe, so⟩ := put_ok (q := kk) s3 q (r1.mono (e2.trans e3))
          exact ⟨_, _, rfl, .k hH (by rw [← l.length]; exact fitN_ok hf), h3 _ _ () xe so (en3.mono xe)⟩
        · exact h3.elim
      · exact h3.elim
    · exact h3.elim
  · exact h3.elim
theorem x_setd {apos cpos : Pos} (ho : EX X T E o mo) (hi : EX X T E i mi) (he : EX X T E e m) (mm : M2 X o "setdefault" apos i e cpos) : EX X T E (.Call (.Attribute o "setdefault" apos) [i, e] [] cpos) (mSetd mo mi m) :=
  pe_imp (pe_dsetd ho hi he mm) fun σ H Q ⟨g, st, env, s, en, h⟩ => tv_of s en h fun g1 H1 st1 x v e1 s1 en1 r1 h1 => by
    split at h1
    · rename_i hd
      obtain ⟨kvs0, ek⟩ := Option.isSome_iff_exists.mp hd
      obtain ⟨a, ws0, rfl, hH0, _⟩ := asD_ok s1 r1 ek
      refine ⟨a, rfl, .inl ⟨_, .of hH0⟩, ?_⟩
      refine tv_of s1 en1 h1 fun g2 H2 st2 y u e2 s2 en2 r2 h2 => tv_of s2 en2 h2 fun g3 H3 st3 z w e3 s3 en3 r3 h3 => ?_
      unfold sSetd at h3
      split at h3
      · split at h3
        · rename_i n kvs q
          split at h3
          · rename_i kk hk
            split at h3
            · rename_i hf
              cases toKey_ok r2 hk
              obtain ⟨ea, _⟩ := dct_of s3 q (r1.mono (e2.trans e3))
              cases ea
              obtain ⟨ws, hH, l, xe, so⟩ := put_ok (q := kk) s3 q r3
              have lk := lookK_ok kk l
              refine ⟨ws, kk, hH, rfl, by rw [← l.length]; exact fitN_ok hf, fun v' ev => ?_, fun ev => ?_⟩
              · split at lk
                · rename_i x' ex
                  obtain ⟨v2, e4, rz⟩ := lk
                  rw [ev] at e4
                  cases e4
                  rw [ex] at h3
                  exact okR.fin h3 s3 rz
                · rw [ev] at lk; cases lk
              · split at lk
                · obtain ⟨v2, e4, _⟩ := lk
                  rw [ev] at e4; cases e4
                · rename_i ex
                  rw [ex] at h3
                  exact okR.finE h3 xe so (r3.mono xe)
            · exact h3.elim
          · exact h3.elim
        · exact h3.elim
      · exact h3.elim
    · exact h1.elim
end
/-! lists of a dict's keys -/
def sListD : SeN := fun xs st => match xs with
  | [x] => match asD st x with
    | some kvs => .ok (.lst (kvs.map fun kv => kP kv.1)) st
    | none => .bad
  | _ => .bad
def sListDM : SeN := fun xs st => match xs with
  | [x] => match asD st x with
    | some kvs => .ok (.ref st.length) (st ++ [.lst (kvs.map fun kv => kP kv.1)])
    | none => .bad
  | _ => .bad
def keyI : Key → Option Int
  | .inl i => some i
  | _ => none
def sSortD : SeN := fun xs st => match xs with
  | [x] => match (asD st x).bind fun kvs => mapO keyI (kvs.map (·.1)) with
    | some ns => if decide (ns.length < 64) = true then .ok (.lst ((sortI ns).map .int)) st else .bad
    | none => .bad
  | _ => .bad
def sSortDM : SeN := fun xs st => match xs with
  | [x] => match (asD st x).bind fun kvs => mapO keyI (kvs.map (·.1)) with
    | some ns => if decide (ns.length < 64) = true then .ok (.ref st.length) (st ++ [.lst ((sortI ns).map .int)]) else .bad
    | none => .bad
  | _ => .bad
theorem keyI_ok : ∀ {ks : List Key} {ns : List Int}, mapO keyI ks = some ns → ks = ns.map Sum.inl
  | [], _, e => by cases e; rfl
  | k :: ks, ns, e => by
    simp only [mapO] at e
    split at e
    · rename_i y ys e1 e2
      cases e
      cases k with
      | inl i => cases e1; rw [keyI_ok e2]; rfl
      | inr x => cases e1
    · cases e
section
variable {T : String → Value} {K : PySem.W.Frag} {E : XK}
abbrev rListD : List V → Hp → VK → Prop := fun xs H Q => ∃ (a : Addr) (kvs : List (Key × V)), xs = [.ref a] ∧ Rd H a (.dK kvs) ∧ ∀ p, H p = none → Q (.ref p) (upd H p (.lst (kvs.map fun kv => kV kv.1)))
theorem n_listD : SN T K E rListD sListD := by
  intro g H st xs vs Q s l h
  unfold sListD at h
  split at h
  · obtain ⟨v, rfl, r⟩ := one_of l
    split at h
    · rename_i kvs e
      obtain ⟨a, ws, rfl, hq, l2⟩ := asD_ok s r e
      exact ⟨a, ws, rfl, .of hq, giveF s (keys_ok l2) h⟩
    · exact h.elim
  · exact h.elim
theorem n_listDM : SN T K E rListD sListDM := by
  intro g H st xs vs Q s l h
  unfold sListDM at h
  split at h
  · obtain ⟨v, rfl, r⟩ := one_of l
    split at h
    · rename_i kvs e
      obtain ⟨a, ws, rfl, hq, l2⟩ := asD_ok s r e
      exact ⟨a, ws, rfl, .of hq, giveM s (keys_ok l2) h⟩
    · exact h.elim
  · exact h.elim
abbrev rSortD : List V → Hp → VK → Prop := fun xs H Q => ∃ (a : Addr) (kvs : List (Key × V)) (ks : List Int), xs = [.ref a] ∧ Rd H a (.dK kvs) ∧ kvs.map (·.1) = ks.map Sum.inl ∧ ks.length < 64 ∧ ∀ (ys : List Int) (p : Addr), ys.Perm ks → ys.Pairwise (· ≤ ·) → H p = none → Q (.ref p) (upd H p (.lst (ys.map V.int)))
theorem n_sortD : SN T K E rSortD sSortD := by
  intro g H st xs vs Q s l h
  unfold sSortD at h
  split at h
  · obtain ⟨v, rfl, r⟩ := one_of l
    split at h
    · rename_i ns e
      obtain ⟨kvs, e1, e2⟩ := Option.bind_eq_some_iff.mp e
      obtain ⟨a, ws, rfl, hq, l2⟩ := asD_ok s r e1
      split at h
      · rename_i hl
        refine ⟨a, ws, ns, rfl, .of hq, by rw [← keys_eq l2]; exact keyI_ok e2, of_decide_eq_true hl, fun ys p hp hs hn => ?_⟩
        cases sorted_one (hp.trans (sortI_perm ns).symm) hs (sortI_sorted ns)
        exact giveF s (.ofInts _) h p hn
      · exact h.elim
    · exact h.elim
  · exact h.elim
theorem n_sortDM : SN T K E rSortD sSortDM := by
  intro g H st xs vs Q s l h
  unfold sSortDM at h
  split at h
  · obtain ⟨v, rfl, r⟩ := one_of l
    split at h
    · rename_i ns e
      obtain ⟨kvs, e1, e2⟩ := Option.bind_eq_some_iff.mp e
      obtain ⟨a, ws, rfl, hq, l2⟩ := asD_ok s r e1
      split at h
      · rename_i hl
        refine ⟨a, ws, ns, rfl, .of hq, by rw [← keys_eq l2]; exact keyI_ok e2, of_decide_eq_true hl, fun ys p hp hs hn => ?_⟩
        cases sorted_one (hp.trans (sortI_perm ns).symm) hs (sortI_sorted ns)
        exact giveM s (.ofInts _) h p hn
      · exact h.elim
    · exact h.elim
  · exact h.elim
end
end Sim

set_option Elab.async false
set_option linter.all false
set_option maxRecDepth 100000
set_option maxHeartbeats 4000000
/-! comprehensions whose list stays in the store; truth of lists -/
namespace Sim
open PySem PySem.Spec PyProof.Rows L2
variable [Tb] [Lm]
def mLcX (fin : List PV → Sto → Res PV) (it : iL) (t : Tgt) (c : MB) (m : M) (vs : List Nat) : M := fun env st => (it env st).bind fun xs s1 => if fitL xs then (lcGo t c m (wipeL env vs) xs s1).bind fun ys s2 => fin ys s2 else .bad
def finM (ys : List PV) (s : Sto) : Res PV := .ok (.ref s.length) (s ++ [.lst ys])
abbrev mLcM := mLcX finM
/-- what is made of the list at the end -/
def FinOk (T : String → Value) (K : PySem.W.Frag) (E : XK) (fin : List PV → Sto → Res PV) : Prop :=
  ∀ (g1 : G) (H1 : Hp) (D : Addr) (s1 : Sto), StOk K g1 H1 s1 → H1 D = none → ∀ (g : G) (H : Hp) (st : Sto) (acc : List PV) (ws : List V) (Q : VK), Ext g1 H1 g H → StOk K g H st → H D = some (.lst ws) → RVL K g H acc ws → ¬ g.F D → (∀ i, i < g.n → g.f i ≠ D) →
    okR T K (rV K) g1 H1 (fin acc st) Q E → Q (.ref D) H
section
variable {T : String → Value} {K : PySem.W.Frag} {E : XK}
/-- a list that is told already goes into the store -/
theorem st_take {g : G} {H : Hp} {st : Sto} {D : Addr} {ws : List V} {acc : List PV} (s : StOk K g H st) (hd : H D = some (.lst ws)) (l : RVL K g H acc ws) (nf : ¬ g.F D) (np : ¬ g.P D) (ni : ∀ i, i < g.n → g.f i ≠ D) : Ext g H (g.put D) H ∧ StOk K (g.put D) H (st ++ [.lst acc]) := by
  have x : Ext g H (g.put D) H := ⟨⟨Nat.le_succ _, fun k h => G.put_old h, fun a h => ⟨h, rfl⟩, fun _ _ _ h => h⟩, fun a h => ⟨h, rfl⟩⟩
  have cs : ∀ {i : Nat} {m : MO}, (st ++ [.lst acc])[i]? = some m → (i < g.n ∧ st[i]? = some m) ∨ (i = g.n ∧ m = .lst acc) := fun {i m} e => by
    by_cases h : i < st.length
    · rw [List.getElem?_append_left h] at e
      exact .inl ⟨by rw [s.len]; exact h, e⟩
    · have hi := (List.getElem?_eq_some_iff.mp e).1
      rw [List.length_append, List.length_singleton] at hi
      have e2 : i = st.length := by omega
      subst e2
      exact .inr ⟨s.len.symm, by simpa using e.symm⟩
  refine ⟨x, ?_, fun i j hi hj e => ?_, fun i m e al h => ?_, s.fz, fun a h => ⟨(s.pr a h).1, (s.pr a h).2.1, fun i hi z => ?_⟩, fun i m e => ?_, s.tb⟩
  · show g.n + 1 = _
    rw [List.length_append, s.len]; rfl
  · have hi : i < g.n + 1 := hi
    have hj : j < g.n + 1 := hj
    by_cases h1 : i < g.n
    · by_cases h2 : j < g.n
      · rw [G.put_old h1, G.put_old h2] at e; exact s.inj i j h1 h2 e
      · obtain rfl : j = g.n := by omega
        rw [G.put_old h1, G.put_new] at e
        exact absurd e (ni i h1)
    · obtain rfl : i = g.n := by omega
      by_cases h2 : j < g.n
      · rw [G.put_old h2, G.put_new] at e
        exact absurd e.symm (ni j h2)
      · omega
  · rcases cs e with ⟨hi, e⟩ | ⟨hi, e⟩
    · rw [G.put_old hi] at h; exact s.sep i m e al h
    · subst hi; rw [G.put_new] at h; exact nf h
  · have hi : i < g.n + 1 := hi
    by_cases h1 : i < g.n
    · rw [G.put_old h1] at z; exact (s.pr a h).2.2 i h1 z
    · obtain rfl : i = g.n := by omega
      rw [G.put_new] at z
      exact np (z ▸ h)
  · rcases cs e with ⟨hi, e2⟩ | ⟨hi, e2⟩
    · rw [G.put_old hi]; exact (s.at_ i m e2).keep x rfl
    · subst hi; subst e2; rw [G.put_new]; exact ⟨ws, hd, l.mono x⟩
theorem finM_ok : FinOk T K E finM := by
  intro g1 H1 D s1 so1 hD g H st acc ws Q e s hd l nf ni q
  have key : ∀ g' : G, Ext g1 H1 g' H → StOk K g' H st → RVL K g' H acc ws → ¬ g'.F D → (∀ i, i < g'.n → g'.f i ≠ D) → ¬ g'.P D → Q (.ref D) H := by
    intro g' e s l nf ni np
    obtain ⟨x, s2⟩ := st_take s hd l nf np ni
    have r : RV K (g'.put D) H (.ref g'.n) (.ref ((g'.put D).f g'.n)) := .ref (Nat.lt_succ_self g'.n)
    rw [G.put_new, s.len] at r
    exact okR.finE q (e.trans x) s2 r
  by_cases hp : g.P D
  · have e2 := ext_back (o := .lst ws) so1 e s hD hp hd
    have s2 := st_un (o := .lst ws) s hp hd
    have x2 := ext_un (o := .lst ws) s hp hd
    rw [upd_id hd] at e2 s2 x2
    exact key _ e2 s2 (l.monoW x2) nf ni fun z => z.2 rfl
  · exact key g e s l nf ni hp
theorem lc_coreX {fin : List PV → Sto → Res PV} (hfin : FinOk T K E fin) {wi : TI} {mi : iL} {t : Tgt} {c : MB} {m : M} {vs : List Nat} {te : TE} {tt : TT} (hte : te = TV T K (fun _ _ _ => False) m) (htt : tt = TB T K (fun _ _ _ => False) c) (hwi : wi = TI' T K E mi) (hsl : ∀ i ∈ t.slots, i ∈ vs) (hlm : ∀ v ∈ vs, Lm.at_ v = none) {σ : L2.St} {H : Hp} {Q : VK} (h : TV T K E (mLcX fin mi t c m vs) σ H Q) : tLc wi (tgR K t) tt te vs σ H Q := by
  subst hte htt hwi
  obtain ⟨g, st, env, s, en, h⟩ := h
  refine ⟨g, st, env, s, en, h.step.imp fun J H1 ⟨g1, s1, xs, e1, so1, wk, h1⟩ => ?_⟩
  have en1 := en.mono e1
  intro D hD
  split at h1
  · rename_i hf
    have hlen : xs.length ≤ sizeLine := fitL_ok hf
    have start : ∀ (g : G) (H : Hp) (st : Sto) (acc : List PV) (ws : List V), Ext g1 H1 g H → StOk K g H st → H D = some (.lst ws) → RVL K g H acc ws → ¬ g.F D → (∀ i, i < g.n → g.f i ≠ D) →
        okR T K (rV K) g1 H1 (fin acc st) Q E → Q (.ref D) H := fun g H st acc ws e s hd l nf ni q => hfin g1 H1 D s1 so1 hD g H st acc ws Q e s hd l nf ni q
    refine ⟨fun i n H => i + n = xs.length ∧ ∃ g st acc ws, Ext g1 H1 g H ∧ StOk K g H st ∧ H D = some (.lst ws) ∧ RVL K g H acc ws ∧ ¬ g.F D ∧ (∀ i, i < g.n → g.f i ≠ D) ∧ acc.length ≤ i ∧
      okR T K (rV K) g1 H1 ((lcGo t c m (wipeL env vs) (xs.drop i) st).bind fun ys s2 => fin (acc ++ ys) s2) Q E, ⟨xs.length, by omega, g1, s1, [], [], ext_new so1 hD, st_new so1 hD, upd_same, .nil, fun z => (so1.fz D z).ne hD, fun i hi z => ?_, Nat.zero_le _, by simpa using h1⟩, ?_⟩
    · have hi' : i < s1.length := by rw [← so1.len]; exact hi
      exact (so1.at_ i s1[i] (List.getElem?_eq_getElem hi')).there (z ▸ hD)
    · rintro i n H ⟨hn, g, st, acc, ws, e, s, hd, l, nf, ni, hacc, h⟩
      obtain ⟨w1, w2⟩ := wk g H st e s i
      by_cases hlt : i < xs.length
      · have hx : xs[i]? = some xs[i] := List.getElem?_eq_getElem hlt
        have hdr : xs.drop i = xs[i] :: xs.drop (i + 1) := List.drop_eq_getElem_cons hlt
        rw [hdr] at h
        obtain ⟨go, _⟩ := w2 _ hx
        refine .inr ⟨go, fun H' => ∃ g st acc ws, Ext g1 H1 g H' ∧ StOk K g H' st ∧ H' D = some (.lst ws) ∧ RVL K g H' acc ws ∧ ¬ g.F D ∧ (∀ i, i < g.n → g.f i ≠ D) ∧ acc.length ≤ i + 1 ∧
          okR T K (rV K) g1 H1 ((lcGo t c m (wipeL env vs) (xs.drop (i + 1)) st).bind fun ys s2 => fin (acc ++ ys) s2) Q E, fun H' w => ⟨n - 1, by omega, by omega, w⟩, fun v H' y => ?_⟩
        -- the guard
        have sg : StOk K (g.grd D) H st := st_grd s ⟨_, hd, nofun⟩ nf ni
        have eg : Ext g1 H1 (g.grd D) H := e.trans ext_grd
        obtain ⟨_, w4⟩ := wk (g.grd D) H st eg sg i
        obtain ⟨e3, s3, r3⟩ := (w4 _ hx).2 v H' y
        have gD3 : (g.grd D).P D := .inr rfl
        simp only [lcGo] at h
        cases q2 : t.run xs[i] (wipeL env vs) with
        | none => rw [q2] at h; exact h.elim
        | some env1 =>
          rw [q2] at h
          dsimp only at h
          refine tg_ok ((en1.mono (eg.trans e3)).wipe vs hlm) r3 q2 fun σ2 en4 wp => ⟨?_, g.grd D, st, env1, s3, en4, ?_⟩
          · rw [wp vs hsl]
            have : ∀ us : List Nat, (∀ u ∈ us, u ∈ vs) → wipe (wipe σ vs) us = wipe σ vs := by
              intro us
              induction us with
              | nil => intro _; rfl
              | cons u us ih =>
                intro hu
                show (wipe (wipe σ vs) us).set u none = _
                rw [ih fun w hw => hu w (List.mem_cons_of_mem _ hw)]
                have idm : ∀ (ws : List Nat), u ∈ ws → (wipe σ ws).set u none = wipe σ ws := by
                  intro ws
                  induction ws with
                  | nil => intro z; cases z
                  | cons a ws ih2 =>
                    intro z
                    show ((wipe σ ws).set a none).set u none = (wipe σ ws).set a none
                    by_cases ea : a = u
                    · subst ea; rw [List.set_set]
                    · rw [List.set_comm _ _ ea, ih2 ((List.mem_cons.mp z).resolve_left fun q => ea q.symm)]
                exact idm vs (hu u List.mem_cons_self)
            exact this vs fun _ hu => hu
          · have hA : okR T K (rV K) g1 H1 ((c env1 st).only.bind fun b s1 => (if b = true then (m env1 s1).only.bind fun y s2 => (lcGo t c m (wipeL env vs) (xs.drop (i + 1)) s2).bind fun ys s3 => .ok (y :: ys) s3 else lcGo t c m (wipeL env vs) (xs.drop (i + 1)) s1).bind fun ys s2 => fin (acc ++ ys) s2) Q E := by
              cases qc : c env1 st with
              | ok b s1 => rw [qc] at h; exact h
              | exc n fs s1 => rw [qc] at h; exact h
              | bad => rw [qc] at h; exact h
            have ge3 : Ext g1 H1 (g.grd D) H' := eg.trans e3
            refine (hA.stepB (R' := rB) ge3).imp fun b H4 ⟨g4, st4, b', e4, s4, eb, h4⟩ => ?_
            subst eb
            have gD4 : g4.P D := (e4.P D gD3).1
            have hD4 : H4 D = some (.lst ws) := by rw [(e4.P D gD3).2, (e3.P D gD3).2]; exact hd
            have l4 : RVL K g4 H4 acc ws := (l.mono (ext_grd.trans e3)).mono e4
            cases b' with
            | false =>
              rw [if_neg Bool.false_ne_true] at h4 ⊢
              have e5 := ext_back (o := .lst ws) so1 (ge3.trans e4) s4 hD gD4 hD4
              have s5 := st_un (o := .lst ws) s4 gD4 hD4
              have x5 := ext_un (o := .lst ws) s4 gD4 hD4
              rw [upd_id hD4] at e5 s5 x5
              exact ⟨g4.ungrd D, st4, acc, ws, e5, s5, hD4, l4.monoW x5, (s4.pr D gD4).2.1, (s4.pr D gD4).2.2, by omega, h4⟩
            | true =>
              rw [if_pos rfl] at h4 ⊢
              refine ⟨g4, st4, env1, s4, en4.mono e4, ?_⟩
              have hB : okR T K (rV K) g1 H1 ((m env1 st4).only.bind fun y s2 => (lcGo t c m (wipeL env vs) (xs.drop (i + 1)) s2).bind fun ys s3 => fin (acc ++ (y :: ys)) s3) Q E := by
                cases qm : m env1 st4 with
                | ok y s2 =>
                  rw [qm] at h4
                  simp only [Res.only, Res.bind_ok] at h4 ⊢
                  cases ql : lcGo t c m (wipeL env vs) (xs.drop (i + 1)) s2 with
                  | ok ys s3 => rw [ql] at h4; exact h4
                  | exc n fs s3 => rw [ql] at h4; exact h4
                  | bad => rw [ql] at h4; exact h4
                | exc n fs s1 => rw [qm] at h4; exact h4
                | bad => rw [qm] at h4; exact h4
              refine (hB.stepB (R' := rV K) (ge3.trans e4)).imp fun y H5 ⟨g5, st5, yy, e5, s5, ry, h5⟩ => ?_
              have gD5 : g5.P D := (e5.P D gD4).1
              have hD5 : H5 D = some (.lst ws) := by rw [(e5.P D gD4).2]; exact hD4
              have x6 := ext_un (o := .lst (ws ++ [y])) s5 gD5 hD5
              refine ⟨ws, hD5, ?_, g5.ungrd D, st5, acc ++ [yy], ws ++ [y], ext_back so1 ((ge3.trans e4).trans e5) s5 hD gD5 hD5, st_un s5 gD5 hD5, upd_same, ?_, (s5.pr D gD5).2.1, (s5.pr D gD5).2.2, by simp; omega, ?_⟩
              · rw [← l.length]; omega
              · exact ((l4.mono e5).append (.cons ry .nil)).monoW x6
              · simpa using h5
      · have hdr : xs.drop i = [] := List.drop_eq_nil_of_le (by omega)
        rw [hdr] at h
        refine .inl ⟨w1 (by omega), start g H st acc ws e s hd l nf ni ?_⟩
        simpa [lcGo] using h
  · exact h1.elim
end
section
variable {X : Cx} {T : String → Value} {E : XK} {elt tg iter : Expr} {ifs : List Expr} {scope : Scope} {own : List (Str × Nat)} {pos : Pos} {mi : iL} {t : Tgt} {c : MB} {m : M}
theorem x_lcM (hc : X.calm = true) (hN : X.N.Nodup) (hi : IX X T E tg iter mi) (ok : BlkOk X.N X.env.scope scope own)
    (hg : ∀ (s : Shared) (H : Hp) (C : Addr) (cl : List (Str × Addr)) (fp : List Addr), GX (X.blk s H scope (compEnvC scope cl C X.env) fp) tg t) (ht : ∀ (s : Shared) (H : Hp) (C : Addr) (cl : List (Str × Addr)) (fp : List Addr), CX' (X.blk s H scope (compEnvC scope cl C X.env) fp) T ifs c)
    (he : ∀ (s : Shared) (H : Hp) (C : Addr) (cl : List (Str × Addr)) (fp : List Addr), EX (X.blk s H scope (compEnvC scope cl C X.env) fp) T (fun _ _ _ => False) elt m) (hsl : ∀ i ∈ t.slots, i ∈ own.map (·.2)) (hs : ∀ x, foldedSetIterable iter X.env x = pure x := by intro _; rfl) (hlm : ∀ v ∈ own.map (·.2), Lm.at_ v = none := by first | exact fun _ _ => rfl | decide) :
    EX X T E (.ListComp elt [⟨tg, iter, ifs, 0⟩] scope pos) (mLcM mi t c m (own.map (·.2))) :=
  pe_imp (pe_lc hc hN hi ok hg ht he hs) fun σ H Q h => lc_coreX finM_ok rfl rfl rfl hsl hlm h
theorem s_setLcM {i : Nat} {y : Str} {py spos : Pos} (hc : X.calm = true) (hN : X.N.Nodup) (hy : X.N[i]? = some y) (hyl : X.env.scope.names.lookup y = some .local)
    (hsw : swapsWith (.ListComp elt [⟨tg, iter, ifs, 0⟩] scope pos) (some (.Name y py)) spos.line X.env = pure true) (hi : IX X T E tg iter mi) (ok : BlkOk X.N X.env.scope scope own)
    (hg : ∀ (s : Shared) (H : Hp) (C : Addr) (cl : List (Str × Addr)) (fp : List Addr), GX (X.blk s H scope (compEnvC scope cl C X.env) fp) tg t) (ht : ∀ (s : Shared) (H : Hp) (C : Addr) (cl : List (Str × Addr)) (fp : List Addr), CX' (X.blk s H scope (compEnvC scope cl C X.env) fp) T ifs c)
    (he : ∀ (s : Shared) (H : Hp) (C : Addr) (cl : List (Str × Addr)) (fp : List Addr), EX (X.blk s H scope (compEnvC scope cl C X.env) fp) T (fun _ _ _ => False) elt m) (hsl : ∀ i ∈ t.slots, i ∈ own.map (·.2)) (hs : ∀ x, foldedSetIterable iter X.env x = pure x := by intro _; rfl) (hlm : ∀ v ∈ own.map (·.2), Lm.at_ v = none := by first | exact fun _ _ => rfl | decide) :
    SX X T E (.Assign [.Name y py] (.ListComp elt [⟨tg, iter, ifs, 0⟩] scope pos) spos) (cSet (.one i) (mLcM mi t c m (own.map (·.2)))) :=
  ps_imp (ps_setLc hc hN hy hyl hsw hi ok hg ht he hs) fun D σ H h => lc_coreX finM_ok rfl rfl rfl hsl hlm (set_core (t := .one i) (tg := gName i) rfl h)
end
/-! ### truth -/
def truB (st : Sto) (x : PV) : Option Bool := match x with
  | .non => some false
  | .bl b => some b
  | .int i => some (i != 0)
  | x => match asS st x with
    | some xs => some !xs.isEmpty
    | none => match asD st x with
      | some kvs => some !kvs.isEmpty
      | none => none
def mNotT (a : M) : M := fun env st => (a env st).bind fun x s1 => match truB s1 x with
  | some b => .ok (.bl (!b)) s1
  | none => .bad
def bTruth (a : M) : MB := fun env st => (a env st).bind fun x s1 => match truB s1 x with
  | some b => .ok b s1
  | none => .bad
section
variable {X : Cx} {T : String → Value} {E : XK} {a : Expr} {ma : M} {pos : Pos}
theorem empty_eq {K : PySem.W.Frag} {g : G} {H : Hp} {xs : List PV} {vs : List V} (l : RVL K g H xs vs) : xs.isEmpty = vs.isEmpty := by cases l <;> rfl
theorem tru_of {K : PySem.W.Frag} {g : G} {H : Hp} {st : Sto} (s : StOk K g H st) {x : PV} {v : V} (r : RV K g H x v) {b : Bool} (e : truB st x = some b) : TruV K v H b := by
  have more : (match asS st x with
    | some xs => some !xs.isEmpty
    | none => match asD st x with
      | some kvs => some !kvs.isEmpty
      | none => none) = some b → TruV K v H b := fun e => by
    split at e
    · rename_i xs q
      cases e
      obtain ⟨p, vs, rfl, h, l⟩ := asS_ok s r q
      rw [empty_eq l]
      exact h.elim (fun h => .inl ⟨vs, h, rfl⟩) fun h => .inr (.inl ⟨vs, h, rfl⟩)
    · split at e
      · rename_i kvs q
        cases e
        obtain ⟨p, ws, rfl, h, l⟩ := asD_ok s r q
        refine .inr (.inr ⟨ws, h, ?_⟩)
        cases l <;> rfl
      · cases e
  cases x with
  | non => cases r; cases e; rfl
  | bl k => cases r; cases e; rfl
  | int k => cases r; cases e; rfl
  | _ => exact more e
theorem x_notT (ha : EX X T E a ma) : EX X T E (.UnaryOp .Not a pos) (mNotT ma) :=
  pe_imp (pe_notT ha) fun σ H Q ⟨g, st, env, s, en, h⟩ => tv_of s en h fun g1 H1 st1 x v e1 s1 en1 r1 h1 => by
    split at h1
    · rename_i b q
      exact ⟨b, tru_of s1 r1 q, okR.fin h1 s1 (.bl _)⟩
    · exact h1.elim
theorem t_truth (ha : EX X T E a ma) (he : ∀ whole, isTrue a X.env whole = (do let v ← whole; standAt a.pos; holding [v] (truthy v)) := by intro _; rfl) : TX X T E a (bTruth ma) :=
  pt_imp (pt_truth ha he) fun σ H Q ⟨g, st, env, s, en, h⟩ => tv_of s en h fun g1 H1 st1 x v e1 s1 en1 r1 h1 => by
    split at h1
    · rename_i b q
      exact ⟨b, tru_of s1 r1 q, okR.fin h1 s1 rfl⟩
    · exact h1.elim
end
end Sim

set_option Elab.async false
set_option linter.all false
namespace Sim
open PySem PySem.Spec PyProof.Rows L2
variable [Lm]
omit [Lm] in
/-- a def whose list is changed by its callers, and which makes lambdas -/
theorem y_defRC {c : Addr} {T : String → Value} {P : Program} {w : World} {K : PySem.W.Frag} {mg : Str → Option Value} {base : Heap} {k : Nat} {f : Addr} {x qual : Str} {st : Stmt} {fd : FuncData} {N ps : List Str} {b : MS} [Tb] (F : Fun K x qual st f fd) (hc : fd.code = .ref c) (S : FnScope N ps (defScope st))
    (hbody : ∀ (cdv : Value) (A : Around) (outer : List PySem.Env) (s : Shared) (H : Hp) (E : XK), Gd (A.deeper (envOfC qual (defScope st) s.heap.objs.size f cdv)) → Room k (A.deeper (envOfC qual (defScope st) s.heap.objs.size f cdv)) → cdv = .ref c →
      letI : Lm := lm0; SXs (cxOf CX0 P w K mg base N qual (defScope st) f cdv A outer s H E).nox T E0 (defBody st) b) :
    FnG P w K mg base CX0 (k + 1) f fd ps (spM T K ps.length (defR N.length b)) := by
  letI : Lm := lm0
  refine fnG_ofC F hc S (fun vs H Q E h => h.1) fun cdv A outer s H vs Q E gd hr hcd h => ?_
  obtain ⟨hl, g, st', xs, so, l, h⟩ := h
  refine ⟨_, (hbody cdv A outer s H E gd hr hcd).nox, g, st', _, so, env_start (N := N) l, ?_⟩
  unfold defR at h
  show okS T K E0 g H (b (xs.map some ++ List.replicate (N.length - xs.length) none) st') _
  cases q : b (xs.map some ++ List.replicate (N.length - xs.length) none) st' with
  | rt y s => rw [q] at h; exact fun g' H' v e s1 r => h g' H' v e s1 r
  | nx e s => rw [q] at h; exact fun g' H' σ' e s1 _ => h g' H' .non e s1 .non
  | bk e s => rw [q] at h; exact h.elim
  | ct e s => rw [q] at h; exact h.elim
  | exc n fs s => rw [q] at h; exact h.elim
  | bad => rw [q] at h; exact h.elim
end Sim

set_option Elab.async false
namespace Pg
open PySem Sim
def m__law_mixed : MS := (cSeq (cSet (.one 2) (mBin sMod (mApp sInt (mCons (mBin sAdd (mBin sAdd (mBin sMul (mBin sMod (mApp sInt (mCons (mVar 0) mNil)) (mC (.int 2147483647))) (mC (.int 48271))) (mBin sMul (mVar 1) (mC (.int 69621)))) (mC (.int 1048583))) mNil)) (mC (.int 2147483629))))
  (cSeq (cSet (.one 2) (mBin sMod (mApp sInt (mCons (mBin sMul (mVar 2) (mVar 2)) mNil)) (mC (.int 2147483587))))
  (cRet (mBin sMod (mApp sInt (mCons (mBin sMul (mVar 2) (mBin sAdd (mVar 2) (mC (.int 2)))) mNil)) (mC (.int 2147483579))))))
def f__law_mixed : MF := defM 3 m__law_mixed
def m__law_cell : MS := (cSeq (cSet (.one 2) (mC (.int 0)))
  (cSeq (cIf (bVal (mBin sLt (mVar 1) (mApp sLen (mCons (mVar 0) mNil))))
  (cSet (.one 2) (mBin sIx (mVar 0) (mVar 1)))
  cNil)
  (cSeq (cIf (bVal (mBin sGe (mVar 2) (mBin sPow (mC (.int 10)) (mC (.int 18)))))
  (cRet (mBin sMod (mApp sInt (mCons (mBin sSub (mVar 2) (mBin sPow (mC (.int 10)) (mC (.int 18)))) mNil)) (mBin sMul (mBin sMul (mBin sMul (mBin sPow (mC (.int 10)) (mC (.int 60))) (mBin sPow (mC (.int 10)) (mC (.int 60)))) (mBin sPow (mC (.int 10)) (mC (.int 60)))) (mBin sPow (mC (.int 10)) (mC (.int 60))))))
  cNil)
  (cSeq (cSet (.one 3) (mC (.int 0)))
  (cSeq (cFor (mRange1 (mC (.int 24))) (.one 4)
  (cSet (.one 3) (mBin sAdd (mBin sMul (mVar 3) (mC (.int 2147483579))) (mApp (fnN 2 f__law_mixed) (mCons (mVar 2) (mCons (mBin sAdd (mBin sAdd (mBin sMul (mC (.int 7)) (mVar 1)) (mBin sMul (mC (.int 100)) (mVar 4))) (mBin sMul (mVar 4) (mVar 4))) mNil))))))
  (cRet (mVar 3)))))))
def f__law_cell : MF := defM 5 m__law_cell
def m__law_take : MS := (cSeq (cSet (.one 2) (mBin sMod (mApp sInt (mCons (mBin sIx (mVar 0) (mC (.int 0))) mNil)) (mVar 1)))
  (cSeq (cSetIx (mVar 0) (mC (.int 0)) (mBin sDiv (mBin sIx (mVar 0) (mC (.int 0))) (mVar 1)))
  (cRet (mVar 2))))
def f__law_take : MF := defM 3 m__law_take
def m__law_fields : MS := (cSeq (cSet (.one 2) (mApp sLstM mNil))
  (cSeq (cFor (mIter (mApp sLstF (mCons (mC (.str "a")) (mCons (mC (.str "ab")) (mCons (mC (.str "longname")) (mCons (mC (.str "x")) mNil)))))) (.one 3)
  (cSeq (cSet (.one 4) (mApp (fnN 2 f__law_take) (mCons (mVar 0) (mCons (mC (.int 5)) mNil))))
  (cIf (bVal (mBin sLt (mVar 4) (mC (.int 2))))
  (cExpr (mAppend (mVar 2) (mApp sTup (mCons (mVar 3) (mCons (mApp sTup (mCons (mApp (fnN 2 f__law_take) (mCons (mVar 0) (mCons (mVar 1) mNil))) mNil)) mNil)))))
  (cIf (bVal (mBin sEq (mVar 4) (mC (.int 2))))
  (cExpr (mAppend (mVar 2) (mApp sTup (mCons (mVar 3) (mCons (mBin sIx (mApp sLstF (mCons (mC (.int 0)) (mCons (mC (.int 1)) (mCons (mBin sSub (mC (.int 0)) (mC (.int 1))) (mCons (mC (.int 7)) (mCons (mC (.int 999999999)) mNil)))))) (mApp (fnN 2 f__law_take) (mCons (mVar 0) (mCons (mC (.int 5)) mNil)))) mNil)))))
  cNil))))
  (cRet (mApp sTuple (mCons (mVar 2) mNil)))))
def f__law_fields : MF := defM 5 m__law_fields
def m__law_web : MS := (cSeq (cSet (.one 2) (mBin sAdd (mC (.int 1)) (mApp (fnN 2 f__law_take) (mCons (mVar 0) (mCons (mVar 1) mNil)))))
  (cSeq (cSet (.one 3) (mApp sLstM mNil))
  (cSeq (cFor (mRange1 (mVar 2)) (.one 4)
  (cIf (bAnd (bVal (mBin sNe (mVar 3) (mApp sLstF mNil))) (bVal (mBin sEq (mApp (fnN 2 f__law_take) (mCons (mVar 0) (mCons (mC (.int 4)) mNil))) (mC (.int 0)))))
  (cExpr (mAppend (mVar 3) (mBin sIx (mVar 3) (mApp (fnN 2 f__law_take) (mCons (mVar 0) (mCons (mApp sLen (mCons (mVar 3) mNil)) mNil))))))
  (cExpr (mAppend (mVar 3) (mApp sTup (mCons (mBin sIx (mApp sLstF (mCons (mC (.str "open")) (mCons (mC (.str "frozen")) (mCons (mC (.str "frozen")) mNil)))) (mApp (fnN 2 f__law_take) (mCons (mVar 0) (mCons (mC (.int 3)) mNil)))) (mCons (mApp (fnN 2 f__law_fields) (mCons (mVar 0) (mCons (mVar 2) mNil))) mNil)))))))
  (cSeq (cSet (.one 5) (mSlice (mApp sLstF (mCons (mC (.str "a")) (mCons (mC (.str "ab")) (mCons (mC (.str "ca")) (mCons (mC (.str "read")) (mCons (mC (.str "set")) (mCons (mC (.str "zebra")) mNil))))))) oNone (oSome (mBin sAdd (mC (.int 1)) (mApp (fnN 2 f__law_take) (mCons (mVar 0) (mCons (mC (.int 6)) mNil)))))))
  (cRet (mApp sTup (mCons (mApp sTuple (mCons (mVar 3) mNil)) (mCons (mApp sTuple (mCons (mLc (mIter (mVar 5)) (.one 6) bYes (mApp sTup (mCons (mVar 6) (mCons (mApp (fnN 2 f__law_take) (mCons (mVar 0) (mCons (mVar 2) mNil))) mNil))) [6]) mNil)) mNil))))))))
def f__law_web : MF := defM 7 m__law_web
def m__law_no_more : MS := (cSeq (cSet (.one 2) (mApp sLstM (mCons (mApp sTup (mCons (mC .non) (mCons (mVar 1) mNil))) (mCons (mApp sTup (mCons (mC (.int 7)) (mCons (mVar 1) mNil))) (mCons (mApp sTup (mCons (mVar 0) (mCons (mC .non) mNil))) (mCons (mApp sTup (mCons (mVar 0) (mCons (mC (.int 7)) mNil))) (mCons (mApp sTup (mCons (mVar 0) (mCons (mApp sTup (mCons (mC .non) mNil)) mNil))) (mCons (mApp sTup (mCons (mVar 0) (mCons (mApp sTup (mCons (mC (.int 7)) mNil)) mNil))) mNil))))))))
  (cSeq (cSet (.one 2) (mBin sAddM (mVar 2) (mApp sLstF (mCons (mApp sTup (mCons (mVar 0) (mCons (mApp sTup (mCons (mApp sTup (mCons (mC (.str "a")) (mCons (mC (.int 0)) mNil))) (mCons (mC .non) mNil))) mNil))) (mCons (mApp sTup (mCons (mVar 0) (mCons (mApp sTup (mCons (mApp sTup (mCons (mC (.str "a")) (mCons (mC (.int 0)) mNil))) (mCons (mApp sTup (mCons (mC (.str "c")) (mCons (mC (.int 0)) mNil))) (mCons (mApp sTup (mCons (mC (.str "b")) (mCons (mC (.int 0)) mNil))) mNil)))) mNil))) mNil)))))
  (cSeq (cSet (.one 2) (mBin sAddM (mVar 2) (mApp sLstF (mCons (mApp sTup (mCons (mVar 0) (mCons (mApp sTup (mCons (mApp sTup (mCons (mC (.str "a")) (mCons (mC (.int 0)) mNil))) (mCons (mApp sTup (mCons (mC (.str "b")) (mCons (mC (.int 0)) mNil))) (mCons (mApp sTup (mCons (mC (.str "b")) (mCons (mC (.int 0)) mNil))) mNil)))) mNil))) (mCons (mApp sTup (mCons (mVar 0) (mCons (mApp sTup (mCons (mApp sTup (mCons (mC (.str "a")) (mCons (mC (.bl false)) mNil))) mNil)) mNil))) mNil)))))
  (cSeq (cSet (.one 2) (mBin sAddM (mVar 2) (mApp sLstF (mCons (mApp sTup (mCons (mVar 0) (mCons (mApp sTup (mCons (mApp sTup (mCons (mC (.str "a")) (mCons (mC .non) mNil))) mNil)) mNil))) mNil))))
  (cSeq (cSet (.one 2) (mBin sAddM (mVar 2) (mApp sLstF (mCons (mApp sTup (mCons (mVar 0) (mCons (mApp sTup (mCons (mApp sTup (mCons (mC (.str "b")) (mCons (mC (.int 0)) mNil))) (mCons (mApp sTup (mCons (mC (.str "a")) (mCons (mC (.int 0)) mNil))) (mCons (mApp sTup (mCons (mC (.str "c")) (mCons (mC (.int 0)) mNil))) mNil)))) mNil))) (mCons (mApp sTup (mCons (mVar 0) (mCons (mApp sTup (mCons (mApp sTup (mCons (mC (.str "a")) (mCons (mC (.int 0)) mNil))) (mCons (mApp sTup (mCons (mC (.str "a")) (mCons (mC (.int 0)) mNil))) (mCons (mApp sTup (mCons (mC (.str "b")) (mCons (mC (.int 0)) mNil))) mNil)))) mNil))) mNil)))))
  (cSeq (cSet (.one 2) (mBin sAddM (mVar 2) (mApp sLstF (mCons (mApp sTup (mCons (mVar 0) (mCons (mApp sTup (mCons (mApp sLstF (mCons (mC (.str "a")) (mCons (mC (.int 0)) mNil))) (mCons (mApp sTup (mCons (mC (.str "b")) (mCons (mC (.int 0)) mNil))) mNil))) mNil))) (mCons (mApp sTup (mCons (mVar 0) (mCons (mApp sTup (mCons (mApp sTup (mCons (mC (.str "a")) mNil)) (mCons (mApp sTup (mCons (mC (.str "b")) (mCons (mC (.int 0)) mNil))) mNil))) mNil))) (mCons (mApp sTup (mCons (mVar 0) (mCons (mApp sTup (mCons (mC .non) (mCons (mApp sTup (mCons (mC (.str "b")) (mCons (mC (.int 0)) mNil))) mNil))) mNil))) mNil))))))
  (cSeq (cSet (.one 3) (mApp sLstF (mCons (mApp sLstF (mCons (mC (.str "x")) mNil)) (mCons (mC (.dct [])) (mCons (mC .non) (mCons (mC (.int 2)) (mCons (mApp sTup (mCons (mC (.str "x")) mNil)) (mCons (mC (.bl true)) (mCons (mC (.str "b1")) (mCons (mC (.str "bB")) (mCons (mC (.str "b c")) (mCons (mC (.str "bcdefghij")) (mCons (mC (.str "b\n")) mNil)))))))))))))
  (cSeq (cFor (mIter (mBin sAdd (mVar 3) (mApp sLstF (mCons (mC (.str "A")) (mCons (mC (.str "")) (mCons (mC (.str "a1")) (mCons (mC (.str "a c")) (mCons (mC (.str "b{")) (mCons (mC (.str "b~")) (mCons (mC (.str "b|")) (mCons (mC (.str "}")) mNil))))))))))) (.one 4)
  (cSeq (cSet (.one 2) (mBin sAddM (mVar 2) (mApp sLstF (mCons (mApp sTup (mCons (mVar 0) (mCons (mApp sTup (mCons (mApp sTup (mCons (mVar 4) (mCons (mC (.int 0)) mNil))) mNil)) mNil))) (mCons (mApp sTup (mCons (mVar 0) (mCons (mApp sTup (mCons (mApp sTup (mCons (mC (.str "a")) (mCons (mC (.int 0)) mNil))) (mCons (mApp sTup (mCons (mVar 4) (mCons (mC (.int 0)) mNil))) mNil))) mNil))) mNil)))))
  (cSeq (cSet (.one 2) (mBin sAddM (mVar 2) (mApp sLstF (mCons (mApp sTup (mCons (mVar 0) (mCons (mApp sTup (mCons (mApp sTup (mCons (mVar 4) (mCons (mC (.int 0)) mNil))) (mCons (mApp sTup (mCons (mC (.str "zz")) (mCons (mC (.int 0)) mNil))) mNil))) mNil))) mNil))))
  (cSeq (cExpr (mAppend (mVar 2) (mApp sTup (mCons (mApp sTup (mCons (mApp sTup (mCons (mC (.str "open")) (mCons (mApp sTup (mCons (mApp sTup (mCons (mVar 4) (mCons (mC (.int 1)) mNil))) (mCons (mApp sTup (mCons (mC (.str "zz")) (mCons (mC (.int 1)) mNil))) mNil))) mNil))) mNil)) (mCons (mApp sTup (mCons (mApp sTup (mCons (mC (.str "a")) (mCons (mC (.int 0)) mNil))) mNil)) mNil)))))
  (cSeq (cSet (.one 2) (mBin sAddM (mVar 2) (mApp sLstF (mCons (mApp sTup (mCons (mApp sTup (mCons (mApp sTup (mCons (mC (.str "open")) (mCons (mApp sTup (mCons (mApp sTup (mCons (mVar 4) (mCons (mC (.int 1)) mNil))) mNil)) mNil))) mNil)) (mCons (mApp sTup (mCons (mApp sTup (mCons (mC (.str "a")) (mCons (mC (.int 0)) mNil))) mNil)) mNil))) mNil))))
  (cSet (.one 2) (mBin sAddM (mVar 2) (mApp sLstF (mCons (mApp sTup (mCons (mApp sTup (mCons (mApp sTup (mCons (mC (.str "open")) (mCons (mApp sTup (mCons (mApp sTup (mCons (mC (.str "a")) (mCons (mC (.int 1)) mNil))) (mCons (mApp sTup (mCons (mVar 4) (mCons (mC (.int 1)) mNil))) mNil))) mNil))) mNil)) (mCons (mApp sTup (mCons (mApp sTup (mCons (mC (.str "a")) (mCons (mC (.int 0)) mNil))) mNil)) mNil))) mNil)))))))))
  (cSeq (cSet (.one 5) (mApp sLstF (mCons (mApp sTup (mCons (mApp sTup (mCons (mC (.str "a")) (mCons (mC (.int 1)) mNil))) (mCons (mApp sTup (mCons (mC (.str "c")) (mCons (mC (.int 1)) mNil))) (mCons (mApp sTup (mCons (mC (.str "b")) (mCons (mC (.int 1)) mNil))) mNil)))) (mCons (mApp sTup (mCons (mApp sTup (mCons (mC (.str "a")) (mCons (mC (.int 1)) mNil))) (mCons (mApp sTup (mCons (mC (.str "b")) (mCons (mC (.int 1)) mNil))) (mCons (mApp sTup (mCons (mC (.str "b")) (mCons (mC (.int 2)) mNil))) mNil)))) (mCons (mApp sTup (mCons (mC .non) mNil)) (mCons (mApp sTup (mCons (mC (.int 7)) mNil)) mNil))))))
  (cSeq (cSet (.one 5) (mBin sAdd (mVar 5) (mApp sLstF (mCons (mApp sTup (mCons (mApp sTup (mCons (mC (.str "x")) (mCons (mApp sTup (mCons (mC .non) mNil)) mNil))) mNil)) (mCons (mApp sTup (mCons (mApp sTup (mCons (mC (.str "b")) (mCons (mC (.int 1)) mNil))) (mCons (mApp sTup (mCons (mC (.str "a")) (mCons (mC (.int 1)) mNil))) (mCons (mApp sTup (mCons (mC (.str "c")) (mCons (mC (.int 1)) mNil))) mNil)))) (mCons (mApp sTup (mCons (mApp sTup (mCons (mC (.str "a")) (mCons (mC (.int 1)) mNil))) (mCons (mApp sTup (mCons (mC (.str "a")) (mCons (mC (.int 2)) mNil))) (mCons (mApp sTup (mCons (mC (.str "b")) (mCons (mC (.int 1)) mNil))) mNil)))) mNil))))))
  (cSeq (cSet (.one 5) (mBin sAdd (mVar 5) (mApp sLstF (mCons (mApp sTup (mCons (mApp sTup (mCons (mC (.str "x")) (mCons (mC (.int 1)) mNil))) (mCons (mApp sTup (mCons (mC (.str "x")) (mCons (mApp sTup (mCons (mC (.int 0)) mNil)) mNil))) mNil))) (mCons (mApp sTup (mCons (mApp sTup (mCons (mC (.str "x")) (mCons (mApp sTup (mCons (mC (.bl false)) mNil)) mNil))) mNil)) (mCons (mApp sTup (mCons (mApp sTup (mCons (mC (.str "a")) (mCons (mC (.int 1)) mNil))) (mCons (mApp sTup (mCons (mC (.str "x")) (mCons (mC (.int 1)) (mCons (mC (.int 1)) mNil)))) mNil))) mNil))))))
  (cSeq (cFor (mIter (mBin sAdd (mVar 5) (mApp sLstF (mCons (mApp sTup (mCons (mApp sTup (mCons (mC (.str "x")) (mCons (mApp sTup (mCons (mC (.str "a")) mNil)) mNil))) mNil)) (mCons (mApp sTup (mCons (mApp sTup (mCons (mC (.str "x")) (mCons (mApp sTup (mCons (mApp sTup (mCons (mC (.int 0)) mNil)) mNil)) mNil))) mNil)) (mCons (mApp sTup (mCons (mApp sTup (mCons (mC (.str "x")) (mCons (mC (.bl false)) mNil))) mNil)) (mCons (mApp sTup (mCons (mApp sTup (mCons (mC (.str "a")) (mCons (mC (.int 1)) mNil))) (mCons (mC .non) mNil))) (mCons (mApp sTup (mCons (mApp sTup (mCons (mC (.str "x")) (mCons (mC (.dct [])) mNil))) mNil)) mNil)))))))) (.one 6)
  (cExpr (mAppend (mVar 2) (mApp sTup (mCons (mApp sTup (mCons (mApp sTup (mCons (mC (.str "open")) (mCons (mVar 6) mNil))) mNil)) (mCons (mApp sTup (mCons (mApp sTup (mCons (mC (.str "a")) (mCons (mC (.int 0)) mNil))) mNil)) mNil))))))
  (cSeq (cFor (mIter (mApp sLstF (mCons (mC .non) (mCons (mApp sTup (mCons (mC (.str "open")) (mCons (mApp sTup mNil) (mCons (mC (.int 0)) mNil)))) (mCons (mApp sTup (mCons (mC (.str "thawed")) (mCons (mApp sTup mNil) mNil))) (mCons (mC (.int 7)) (mCons (mApp sTup (mCons (mC (.str "open")) (mCons (mApp sTup (mCons (mApp sTup (mCons (mC (.str "x")) (mCons (mApp sTup (mCons (mC (.int 9)) mNil)) mNil))) mNil)) mNil))) (mCons (mApp sLstF (mCons (mC (.str "frozen")) (mCons (mApp sTup mNil) mNil))) mNil)))))))) (.one 7)
  (cSeq (cSet (.one 2) (mBin sAddM (mVar 2) (mApp sLstF (mCons (mApp sTup (mCons (mApp sTup (mCons (mApp sTup (mCons (mC (.str "open")) (mCons (mApp sTup mNil) mNil))) (mCons (mApp sTup (mCons (mC (.str "frozen")) (mCons (mApp sTup mNil) mNil))) (mCons (mVar 7) mNil)))) (mCons (mApp sTup (mCons (mApp sTup (mCons (mC (.str "a")) (mCons (mC (.int 0)) mNil))) mNil)) mNil))) mNil))))
  (cSet (.one 2) (mBin sAddM (mVar 2) (mApp sLstF (mCons (mApp sTup (mCons (mBin sAdd (mBin sMul (mApp sTup (mCons (mApp sTup (mCons (mC (.str "frozen")) (mCons (mApp sTup mNil) mNil))) mNil)) (mC (.int 5))) (mApp sTup (mCons (mVar 7) (mCons (mApp sTup (mCons (mC (.str "open")) (mCons (mApp sTup mNil) mNil))) mNil)))) (mCons (mApp sTup (mCons (mApp sTup (mCons (mC (.str "a")) (mCons (mC (.int 0)) mNil))) mNil)) mNil))) mNil))))))
  (cRet (mVar 2)))))))))))))))
def f__law_no_more : MF := defM 8 m__law_no_more
def m__law_no_webs : MS := (cSeq (cSet (.many [5, 6]) (mVar 0))
  (cSeq (cSet (.one 1) (mApp sTup (mCons (mC (.str "frozen")) (mCons (mApp sTup mNil) mNil))))
  (cSeq (cSet (.one 2) (mApp sLstF (mCons (mC .non) (mCons (mC (.bl true)) (mCons (mC (.int 0)) (mCons (mC (.str "web")) (mCons (mApp sLstF mNil) (mCons (mApp sTup mNil) (mCons (mApp sLstF (mCons (mVar 5) (mCons (mVar 6) mNil))) (mCons (mApp sTup (mCons (mVar 5) mNil)) (mCons (mApp sTup (mCons (mVar 5) (mCons (mVar 6) (mCons (mApp sTup mNil) mNil)))) mNil)))))))))))
  (cSeq (cSet (.one 2) (mBin sAdd (mVar 2) (mApp sLstF (mCons (mApp sTup (mCons (mApp sListF (mCons (mVar 5) mNil)) (mCons (mVar 6) mNil))) mNil))))
  (cSeq (cSet (.one 2) (mBin sAdd (mVar 2) (mApp sLstF (mCons (mApp sTup (mCons (mVar 5) (mCons (mApp sListF (mCons (mVar 6) mNil)) mNil))) (mCons (mApp sTup (mCons (mApp sTup mNil) (mCons (mApp sTup (mCons (mApp sTup (mCons (mC (.str "a")) (mCons (mC (.int 0)) mNil))) mNil)) mNil))) (mCons (mApp sTup (mCons (mVar 5) (mCons (mApp sTup mNil) mNil))) mNil))))))
  (cSeq (cSet (.one 2) (mBin sAdd (mVar 2) (mApp sLstF (mCons (mApp sTup (mCons (mVar 5) (mCons (mApp sTup (mCons (mApp sTup (mCons (mC (.str "a")) (mCons (mApp sLen (mCons (mVar 5) mNil)) mNil))) mNil)) mNil))) (mCons (mApp sTup (mCons (mVar 5) (mCons (mApp sTup (mCons (mApp sTup (mCons (mC (.str "a")) (mCons (mBin sSub (mC (.int 0)) (mC (.int 1))) mNil))) mNil)) mNil))) mNil)))))
  (cSeq (cSet (.one 2) (mBin sAdd (mVar 2) (mApp sLstF (mCons (mApp sTup (mCons (mVar 5) (mCons (mApp sTup (mCons (mApp sTup (mCons (mC (.str "a")) (mCons (mC (.bl true)) mNil))) mNil)) mNil))) (mCons (mApp sTup (mCons (mVar 5) (mCons (mApp sTup (mCons (mApp sTup (mCons (mC (.str "A")) (mCons (mC (.int 0)) mNil))) mNil)) mNil))) (mCons (mApp sTup (mCons (mVar 5) (mCons (mApp sTup (mCons (mApp sTup (mCons (mC (.str "")) (mCons (mC (.int 0)) mNil))) mNil)) mNil))) mNil))))))
  (cSeq (cSet (.one 2) (mBin sAdd (mVar 2) (mApp sLstF (mCons (mApp sTup (mCons (mVar 5) (mCons (mApp sTup (mCons (mApp sTup (mCons (mC (.str "abcdefghi")) (mCons (mC (.int 0)) mNil))) mNil)) mNil))) mNil))))
  (cSeq (cSet (.one 2) (mBin sAdd (mVar 2) (mApp sLstF (mCons (mApp sTup (mCons (mVar 5) (mCons (mApp sTup (mCons (mApp sTup (mCons (mC (.str "b")) (mCons (mC (.int 0)) mNil))) (mCons (mApp sTup (mCons (mC (.str "a")) (mCons (mC (.int 0)) mNil))) mNil))) mNil))) (mCons (mApp sTup (mCons (mVar 5) (mCons (mApp sTup (mCons (mApp sTup (mCons (mC (.str "a")) (mCons (mC (.int 0)) mNil))) (mCons (mApp sTup (mCons (mC (.str "a")) (mCons (mC (.int 0)) mNil))) mNil))) mNil))) mNil)))))
  (cSeq (cSet (.one 2) (mBin sAdd (mVar 2) (mApp sLstF (mCons (mApp sTup (mCons (mVar 5) (mCons (mApp sTup (mCons (mApp sLstF (mCons (mC (.str "a")) (mCons (mC (.int 0)) mNil))) mNil)) mNil))) (mCons (mApp sTup (mCons (mVar 5) (mCons (mApp sTup (mCons (mApp sTup (mCons (mC (.str "a")) mNil)) mNil)) mNil))) mNil)))))
  (cSeq (cSet (.one 2) (mBin sAdd (mVar 2) (mApp sLstF (mCons (mApp sTup (mCons (mVar 5) (mCons (mApp sTup (mCons (mApp sTup (mCons (mC (.str "a")) (mCons (mC (.int 0)) (mCons (mC (.int 0)) mNil)))) mNil)) mNil))) (mCons (mApp sTup (mCons (mVar 5) (mCons (mApp sTup (mCons (mApp sTup (mCons (mC (.int 1)) (mCons (mC (.int 0)) mNil))) mNil)) mNil))) mNil)))))
  (cSeq (cSet (.one 2) (mBin sAdd (mVar 2) (mApp sLstF (mCons (mApp sTup (mCons (mVar 5) (mCons (mApp sTuple (mCons (mLc (mIter (mC (.str "abcdefg"))) (.one 7) bYes (mApp sTup (mCons (mVar 7) (mCons (mC (.int 0)) mNil))) [7]) mNil)) mNil))) mNil))))
  (cSeq (cSet (.one 3) (mApp sLstF (mCons (mC .non) (mCons (mC (.str "open")) (mCons (mApp sTup (mCons (mC (.str "open")) mNil)) (mCons (mApp sLstF (mCons (mC (.str "open")) (mCons (mApp sTup mNil) mNil))) (mCons (mApp sTup (mCons (mC (.str "Open")) (mCons (mApp sTup mNil) mNil))) (mCons (mApp sTup (mCons (mC (.str "closed")) (mCons (mApp sTup mNil) mNil))) (mCons (mApp sTup (mCons (mC .non) (mCons (mApp sTup mNil) mNil))) mNil)))))))))
  (cSeq (cSet (.one 3) (mBin sAdd (mVar 3) (mApp sLstF (mCons (mApp sTup (mCons (mC (.str "open")) (mCons (mApp sLstF mNil) mNil))) (mCons (mApp sTup (mCons (mC (.str "open")) (mCons (mC .non) mNil))) mNil)))))
  (cSeq (cSet (.one 3) (mBin sAdd (mVar 3) (mApp sLstF (mCons (mApp sTup (mCons (mC (.str "open")) (mCons (mApp sTup (mCons (mApp sTup (mCons (mC (.int 1)) (mCons (mC (.int 1)) mNil))) mNil)) mNil))) (mCons (mApp sTup (mCons (mC (.str "open")) (mCons (mApp sTup (mCons (mApp sTup (mCons (mC (.str "x")) (mCons (mC .non) mNil))) mNil)) mNil))) (mCons (mApp sTup (mCons (mC (.str "open")) (mCons (mApp sTup (mCons (mApp sTup (mCons (mC (.str "x")) (mCons (mC (.bl true)) mNil))) mNil)) mNil))) mNil))))))
  (cSeq (cSet (.one 3) (mBin sAdd (mVar 3) (mApp sLstF (mCons (mApp sTup (mCons (mC (.str "open")) (mCons (mApp sTup (mCons (mApp sTup (mCons (mC (.str "x")) (mCons (mC (.str "y")) mNil))) mNil)) mNil))) mNil))))
  (cSeq (cSet (.one 3) (mBin sAdd (mVar 3) (mApp sLstF (mCons (mApp sTup (mCons (mC (.str "open")) (mCons (mApp sTup (mCons (mApp sTup (mCons (mC (.str "x")) (mCons (mApp sTup (mCons (mC (.int 99)) mNil)) mNil))) mNil)) mNil))) (mCons (mApp sTup (mCons (mC (.str "open")) (mCons (mApp sTup (mCons (mApp sTup (mCons (mC (.str "x")) (mCons (mApp sTup (mCons (mBin sSub (mC (.int 0)) (mC (.int 1))) mNil)) mNil))) mNil)) mNil))) (mCons (mApp sTup (mCons (mC (.str "open")) (mCons (mApp sTup (mCons (mApp sTup (mCons (mC (.str "x")) (mCons (mApp sTup mNil) mNil))) mNil)) mNil))) mNil))))))
  (cSeq (cSet (.one 3) (mBin sAdd (mVar 3) (mApp sLstF (mCons (mApp sTup (mCons (mC (.str "open")) (mCons (mApp sTup (mCons (mApp sTup (mCons (mC (.str "x")) (mCons (mApp sTup (mCons (mC (.int 0)) (mCons (mC (.int 0)) mNil))) mNil))) mNil)) mNil))) mNil))))
  (cSeq (cSet (.one 3) (mBin sAdd (mVar 3) (mApp sLstF (mCons (mApp sTup (mCons (mC (.str "open")) (mCons (mApp sTup (mCons (mApp sTup (mCons (mC (.str "x")) (mCons (mApp sLstF (mCons (mC (.int 0)) mNil)) mNil))) mNil)) mNil))) (mCons (mApp sTup (mCons (mC (.str "open")) (mCons (mApp sTup (mCons (mApp sTup (mCons (mC (.str "x")) (mCons (mApp sTup (mCons (mC (.bl true)) mNil)) mNil))) mNil)) mNil))) (mCons (mApp sTup (mCons (mC (.str "open")) (mCons (mApp sTup (mCons (mApp sTup (mCons (mC (.str "x")) (mCons (mBin sPow (mC (.int 10)) (mC (.int 9))) mNil))) mNil)) mNil))) mNil))))))
  (cSeq (cSet (.one 3) (mBin sAdd (mVar 3) (mApp sLstF (mCons (mApp sTup (mCons (mC (.str "open")) (mCons (mApp sTup (mCons (mApp sTup (mCons (mC (.str "x")) (mCons (mBin sSub (mC (.int 0)) (mBin sPow (mC (.int 10)) (mC (.int 9)))) mNil))) mNil)) mNil))) mNil))))
  (cSeq (cSet (.one 3) (mBin sAdd (mVar 3) (mApp sLstF (mCons (mApp sTup (mCons (mC (.str "open")) (mCons (mApp sTup (mCons (mApp sTup (mCons (mC (.str "y")) (mCons (mC (.int 1)) mNil))) (mCons (mApp sTup (mCons (mC (.str "x")) (mCons (mC (.int 1)) mNil))) mNil))) mNil))) (mCons (mApp sTup (mCons (mC (.str "open")) (mCons (mApp sTup (mCons (mApp sTup (mCons (mC (.str "x")) (mCons (mC (.int 1)) mNil))) (mCons (mApp sTup (mCons (mC (.str "x")) (mCons (mC (.int 2)) mNil))) mNil))) mNil))) (mCons (mApp sTup (mCons (mC (.str "open")) (mCons (mApp sTup (mCons (mApp sTup (mCons (mC (.str "X")) (mCons (mC (.int 1)) mNil))) mNil)) mNil))) mNil))))))
  (cSeq (cSet (.one 3) (mBin sAdd (mVar 3) (mApp sLstF (mCons (mApp sTup (mCons (mC (.str "open")) (mCons (mApp sTup (mCons (mApp sLstF (mCons (mC (.str "x")) (mCons (mC (.int 1)) mNil))) mNil)) mNil))) mNil))))
  (cSeq (cSet (.one 3) (mBin sAdd (mVar 3) (mApp sLstF (mCons (mApp sTup (mCons (mC (.str "open")) (mCons (mApp sTuple (mCons (mLc (mIter (mC (.str "vwxyz"))) (.one 7) bYes (mApp sTup (mCons (mVar 7) (mCons (mC (.int 1)) mNil))) [7]) mNil)) mNil))) (mCons (mApp sTup (mCons (mC (.str "open")) (mCons (mApp sTup (mCons (mApp sTup (mCons (mC (.str "x")) (mCons (mC (.int 1)) mNil))) mNil)) (mCons (mC (.int 0)) mNil)))) mNil)))))
  (cSeq (cSet (.one 3) (mBin sAdd (mVar 3) (mApp sLstF (mCons (mApp sTup (mCons (mApp sLstF (mCons (mC (.str "open")) mNil)) (mCons (mApp sTup mNil) mNil))) (mCons (mApp sTup (mCons (mC (.str "open")) (mCons (mC (.dct [])) mNil))) mNil)))))
  (cSeq (cFor (mIter (mVar 3)) (.one 4)
  (cSet (.one 2) (mBin sAdd (mVar 2) (mApp sLstF (mCons (mApp sTup (mCons (mApp sTup (mCons (mVar 4) mNil)) (mCons (mApp sTup (mCons (mApp sTup (mCons (mC (.str "a")) (mCons (mC (.int 0)) mNil))) mNil)) mNil))) (mCons (mApp sTup (mCons (mApp sTup (mCons (mVar 1) (mCons (mVar 4) mNil))) (mCons (mApp sTup (mCons (mApp sTup (mCons (mC (.str "a")) (mCons (mC (.int 0)) mNil))) mNil)) mNil))) mNil))))))
  (cSeq (cSet (.one 2) (mBin sAdd (mVar 2) (mApp sLstF (mCons (mApp sTup (mCons (mBin sMul (mApp sTup (mCons (mVar 1) mNil)) (mC (.int 31))) (mCons (mApp sTup (mCons (mApp sTup (mCons (mC (.str "a")) (mCons (mC (.int 0)) mNil))) mNil)) mNil))) (mCons (mApp sTup (mCons (mApp sTup (mCons (mVar 1) (mCons (mApp sTup (mCons (mC (.str "frozen")) (mCons (mApp sTup (mCons (mApp sTup (mCons (mC (.str "x")) (mCons (mApp sTup (mCons (mC (.int 2)) mNil)) mNil))) mNil)) mNil))) mNil))) (mCons (mApp sTup (mCons (mApp sTup (mCons (mC (.str "a")) (mCons (mC (.int 0)) mNil))) mNil)) mNil))) mNil)))))
  (cRet (mBin sAdd (mVar 2) (mApp (fnN 2 f__law_no_more) (mCons (mVar 5) (mCons (mVar 6) mNil)))))))))))))))))))))))))))))))
def f__law_no_webs : MF := defM 8 m__law_no_webs
def m__law_word : MS := (cSeq (cIf (bOr (bNot (bVal (mApp sIsi (mCons (mVar 0) (mCons (mC (.raw (.ty "str"))) mNil))))) (bNot (bVal (mChain sLe sLe (mC (.int 1)) (mApp sLen (mCons (mVar 0) mNil)) (mC (.int 8))))))
  (cRet (mC (.bl false)))
  cNil)
  (cRet (mApp sAll (mCons (mLc (mIter (mVar 0)) (.one 1) bYes (mBin (sInn false) (mVar 1) (mC (.str "abcdefghijklmnopqrstuvwxyz"))) [1]) mNil))))
def f__law_word : MF := defM 2 m__law_word
def m__law_whole : MS := (cRet (mAnd (mApp sIsi (mCons (mVar 0) (mCons (mC (.raw (.ty "int"))) mNil))) (mAnd (mNot (mApp sIsi (mCons (mVar 0) (mCons (mC (.raw (.ty "bool"))) mNil)))) (mChain sLe sLe (mBin sSub (mC (.int 0)) (mC (.int 999999999))) (mVar 0) (mC (.int 999999999))))))
def f__law_whole : MF := defM 1 m__law_whole
def m__law_rows : MS := (cSeq (cIf (bOr (bNot (bVal (mApp sIsi (mCons (mVar 0) (mCons (mC (.raw (.ty "tuple"))) mNil))))) (bVal (mBin sGt (mApp sLen (mCons (mVar 0) mNil)) (mVar 1))))
  (cRet (mC (.bl false)))
  cNil)
  (cSeq (cFor (mIter (mVar 0)) (.one 2)
  (cIf (bOr (bNot (bVal (mApp sIsi (mCons (mVar 2) (mCons (mC (.raw (.ty "tuple"))) mNil))))) (bOr (bVal (mBin sNe (mApp sLen (mCons (mVar 2) mNil)) (mC (.int 2)))) (bNot (bVal (mApp (fnN 1 f__law_word) (mCons (mBin sIx (mVar 2) (mC (.int 0))) mNil))))))
  (cRet (mC (.bl false)))
  cNil))
  (cRet (mApp sAll (mCons (mLc (mZip (mVar 0) (mSlice (mVar 0) (oSome (mC (.int 1))) oNone)) (.many [2, 3]) bYes (mBin sLt (mBin sIx (mVar 2) (mC (.int 0))) (mBin sIx (mVar 3) (mC (.int 0)))) [2, 3]) mNil)))))
def f__law_rows : MF := defM 4 m__law_rows
def m__law_number : MS := (cRet (mAnd (mApp (fnN 1 f__law_whole) (mCons (mVar 0) mNil)) (mChain sLe sLt (mC (.int 0)) (mVar 0) (mVar 1))))
def f__law_number : MF := defM 2 m__law_number
def m__law_thing : MS := (cSeq (cIf (bOr (bNot (bVal (mApp sIsi (mCons (mVar 0) (mCons (mC (.raw (.ty "tuple"))) mNil))))) (bOr (bVal (mBin sNe (mApp sLen (mCons (mVar 0) mNil)) (mC (.int 2)))) (bNot (bVal (mApp sIsi (mCons (mBin sIx (mVar 0) (mC (.int 0))) (mCons (mC (.raw (.ty "str"))) mNil)))))))
  (cRet (mC (.bl false)))
  cNil)
  (cSeq (cIf (bOr (bVal (mBin (sInn true) (mBin sIx (mVar 0) (mC (.int 0))) (mApp sLstF (mCons (mC (.str "open")) (mCons (mC (.str "frozen")) mNil))))) (bNot (bVal (mApp (fnN 2 f__law_rows) (mCons (mBin sIx (mVar 0) (mC (.int 1))) (mCons (mC (.int 4)) mNil))))))
  (cRet (mC (.bl false)))
  cNil)
  (cSeq (cFor (mIter (mBin sIx (mVar 0) (mC (.int 1)))) (.many [2, 3])
  (cSeq (cSet (.one 4) (mAnd (mApp sIsi (mCons (mVar 3) (mCons (mC (.raw (.ty "tuple"))) mNil))) (mAnd (mBin sEq (mApp sLen (mCons (mVar 3) mNil)) (mC (.int 1))) (mApp (fnN 2 f__law_number) (mCons (mBin sIx (mVar 3) (mC (.int 0))) (mCons (mVar 1) mNil))))))
  (cIf (bAnd (bNot (bVal (mApp (fnN 1 f__law_whole) (mCons (mVar 3) mNil)))) (bNot (bVal (mVar 4))))
  (cRet (mC (.bl false)))
  cNil)))
  (cRet (mC (.bl true))))))
def f__law_thing : MF := defM 5 m__law_thing
def m__law_is : MS := (cSeq (cIf (bOr (bNot (bVal (mApp sIsi (mCons (mVar 0) (mCons (mC (.raw (.ty "tuple"))) mNil))))) (bOr (bVal (mBin sNe (mApp sLen (mCons (mVar 0) mNil)) (mC (.int 2)))) (bNot (bVal (mApp sIsi (mCons (mBin sIx (mVar 0) (mC (.int 0))) (mCons (mC (.raw (.ty "tuple"))) mNil)))))))
  (cRet (mC (.bl false)))
  cNil)
  (cSeq (cSet (.one 1) (mApp sLen (mCons (mBin sIx (mVar 0) (mC (.int 0))) mNil)))
  (cSeq (cIf (bOr (bNot (bVal (mChain sLe sLe (mC (.int 1)) (mVar 1) (mC (.int 30))))) (bNot (bVal (mApp sAll (mCons (mLc (mIter (mBin sIx (mVar 0) (mC (.int 0)))) (.one 4) bYes (mApp (fnN 2 f__law_thing) (mCons (mVar 4) (mCons (mVar 1) mNil))) [4]) mNil)))))
  (cRet (mC (.bl false)))
  cNil)
  (cSeq (cIf (bOr (bNot (bVal (mApp (fnN 2 f__law_rows) (mCons (mBin sIx (mVar 0) (mC (.int 1))) (mCons (mC (.int 6)) mNil))))) (bVal (mBin sEq (mBin sIx (mVar 0) (mC (.int 1))) (mApp sTup mNil))))
  (cRet (mC (.bl false)))
  cNil)
  (cRet (mApp sAll (mCons (mLc (mIter (mBin sIx (mVar 0) (mC (.int 1)))) (.many [2, 3]) bYes (mApp (fnN 2 f__law_number) (mCons (mVar 3) (mCons (mVar 1) mNil))) [2, 3]) mNil)))))))
def f__law_is : MF := defM 5 m__law_is
def m_is_tuple : MS := (cRet (mAnd (mApp sIsi (mCons (mVar 0) (mCons (mC (.raw (.ty "tuple"))) mNil))) (mChain sLe sLe (mVar 1) (mApp sLen (mCons (mVar 0) mNil)) (mVar 2))))
def f_is_tuple : MF := defM 3 m_is_tuple
def v_MOST_OBJECTS : PV := .int 30
def v_MOST_LETTERS : PV := .int 8
def m_is_word : MS := (cSeq (cIf (bOr (bNot (bVal (mApp sIsi (mCons (mVar 0) (mCons (mC (.raw (.ty "str"))) mNil))))) (bNot (bVal (mChain sLe sLe (mC (.int 1)) (mApp sLen (mCons (mVar 0) mNil)) (mC v_MOST_LETTERS)))))
  (cRet (mC (.bl false)))
  cNil)
  (cRet (mApp sAll (mCons (mLc (mIter (mVar 0)) (.one 1) bYes (mChain sLe sLe (mC (.str "a")) (mVar 1) (mC (.str "z"))) [1]) mNil))))
def f_is_word : MF := defM 2 m_is_word
def m_words_of : MS := (cRet (mLc (mIter (mVar 0)) (.one 1) bYes (mBin sIx (mVar 1) (mC (.int 0))) [1]))
def f_words_of : MF := defM 2 m_words_of
def m_is_table : MS := (cSeq (cIf (bNot (bVal (mApp (fnN 3 f_is_tuple) (mCons (mVar 0) (mCons (mVar 1) (mCons (mVar 2) mNil))))))
  (cRet (mC (.bl false)))
  cNil)
  (cSeq (cIf (bNot (bVal (mApp sAll (mCons (mLc (mIter (mVar 0)) (.one 4) bYes (mAnd (mApp (fnN 3 f_is_tuple) (mCons (mVar 4) (mCons (mC (.int 2)) (mCons (mC (.int 2)) mNil)))) (mApp (fnN 1 f_is_word) (mCons (mBin sIx (mVar 4) (mC (.int 0))) mNil))) [4]) mNil))))
  (cRet (mC (.bl false)))
  cNil)
  (cSeq (cSet (.one 3) (mApp (fnN 1 f_words_of) (mCons (mVar 0) mNil)))
  (cRet (mBin sEq (mVar 3) (mUn sSortSet (mVar 3)))))))
def f_is_table : MF := defM 5 m_is_table
def v_MOST_NAMES : PV := .int 6
def v_LEAST_INT : PV := .int (-999999999)
def v_MOST_INT : PV := .int 999999999
def m_is_int : MS := (cRet (mAnd (mApp sIsi (mCons (mVar 0) (mCons (mC (.raw (.ty "int"))) mNil))) (mAnd (mNot (mApp sIsi (mCons (mVar 0) (mCons (mC (.raw (.ty "bool"))) mNil)))) (mChain sLe sLe (mC v_LEAST_INT) (mVar 0) (mC v_MOST_INT)))))
def f_is_int : MF := defM 1 m_is_int
def m_is_number : MS := (cRet (mAnd (mApp (fnN 1 f_is_int) (mCons (mVar 0) mNil)) (mChain sLe sLt (mC (.int 0)) (mVar 0) (mVar 1))))
def f_is_number : MF := defM 2 m_is_number
def m_is_names : MS := (cRet (mAnd (mApp (fnN 3 f_is_table) (mCons (mVar 0) (mCons (mC (.int 1)) (mCons (mC v_MOST_NAMES) mNil)))) (mApp sAll (mCons (mLc (mIter (mVar 0)) (.one 2) bYes (mApp (fnN 2 f_is_number) (mCons (mBin sIx (mVar 2) (mC (.int 1))) (mCons (mVar 1) mNil))) [2]) mNil))))
def f_is_names : MF := defM 3 m_is_names
def v_KINDS : PV := .tup [.str "open", .str "frozen"]
def v_MOST_FIELDS : PV := .int 4
def m_is_field_value : MS := (cRet (mOr (mApp (fnN 1 f_is_int) (mCons (mVar 0) mNil)) (mAnd (mApp (fnN 3 f_is_tuple) (mCons (mVar 0) (mCons (mC (.int 1)) (mCons (mC (.int 1)) mNil)))) (mApp (fnN 2 f_is_number) (mCons (mBin sIx (mVar 0) (mC (.int 0))) (mCons (mVar 1) mNil))))))
def f_is_field_value : MF := defM 2 m_is_field_value
def m_is_object : MS := (cSeq (cIf (bOr (bNot (bVal (mApp (fnN 3 f_is_tuple) (mCons (mVar 0) (mCons (mC (.int 2)) (mCons (mC (.int 2)) mNil)))))) (bVal (mBin (sInn true) (mBin sIx (mVar 0) (mC (.int 0))) (mC v_KINDS))))
  (cRet (mC (.bl false)))
  cNil)
  (cSeq (cSet (.one 2) (mBin sIx (mVar 0) (mC (.int 1))))
  (cRet (mAnd (mApp (fnN 3 f_is_table) (mCons (mVar 2) (mCons (mC (.int 0)) (mCons (mC v_MOST_FIELDS) mNil)))) (mApp sAll (mCons (mLc (mIter (mVar 2)) (.one 3) bYes (mApp (fnN 2 f_is_field_value) (mCons (mBin sIx (mVar 3) (mC (.int 1))) (mCons (mVar 1) mNil))) [3]) mNil))))))
def f_is_object : MF := defM 4 m_is_object
def m_is_web : MS := (cSeq (cIf (bOr (bNot (bVal (mApp (fnN 3 f_is_tuple) (mCons (mVar 0) (mCons (mC (.int 2)) (mCons (mC (.int 2)) mNil)))))) (bNot (bVal (mApp (fnN 3 f_is_tuple) (mCons (mBin sIx (mVar 0) (mC (.int 0))) (mCons (mC (.int 1)) (mCons (mC v_MOST_OBJECTS) mNil)))))))
  (cRet (mC (.bl false)))
  cNil)
  (cSeq (cSet (.many [2, 3]) (mVar 0))
  (cSeq (cSet (.one 1) (mApp sLen (mCons (mVar 2) mNil)))
  (cRet (mAnd (mApp (fnN 2 f_is_names) (mCons (mVar 3) (mCons (mVar 1) mNil))) (mApp sAll (mCons (mLc (mIter (mVar 2)) (.one 4) bYes (mApp (fnN 2 f_is_object) (mCons (mVar 4) (mCons (mVar 1) mNil))) [4]) mNil)))))))
def f_is_web : MF := defM 5 m_is_web
def m__law_good : MS := (cSeq (cSet (.one 1) (mApp sStr (mCons (mVar 0) mNil)))
  (cSeq (cSet (.one 2) (mApp (fnN 1 f_is_web) (mCons (mVar 0) mNil)))
  (cRet (mAnd (mApp sIsi (mCons (mVar 2) (mCons (mC (.raw (.ty "bool"))) mNil))) (mAnd (mBin sEq (mVar 2) (mApp (fnN 1 f__law_is) (mCons (mVar 0) mNil))) (mAnd (mBin sEq (mApp (fnK 1 1 [0] f_is_web) (mCons (mVar 0) mNil)) (mVar 2)) (mBin sEq (mApp sStr (mCons (mVar 0) mNil)) (mVar 1))))))))
def f__law_good : MF := defM 3 m__law_good
def m__law_bent : MS := (cSeq (cPar 5 6 (mCons (mApp sListM (mCons (mBin sIx (mVar 1) (mC (.int 0))) mNil)) (mCons (mApp sListF (mCons (mBin sIx (mVar 1) (mC (.int 1))) mNil)) mNil)))
  (cSeq (cSet (.one 2) (mApp (fnN 2 f__law_take) (mCons (mVar 0) (mCons (mApp sLen (mCons (mVar 5) mNil)) mNil))))
  (cSeq (cSet (.many [7, 8]) (mBin sIx (mVar 5) (mVar 2)))
  (cSeq (cSet (.one 3) (mApp sLstF (mCons (mC .non) (mCons (mC (.bl true)) (mCons (mApp sTup mNil) (mCons (mApp sTup (mCons (mC (.int 0)) mNil)) (mCons (mApp sTup (mCons (mC (.int 0)) (mCons (mC (.int 0)) mNil))) (mCons (mBin sPow (mC (.int 10)) (mC (.int 9))) (mCons (mC (.str "x")) (mCons (mApp sTup (mCons (mApp sLen (mCons (mVar 5) mNil)) mNil)) (mCons (mApp sTup (mCons (mBin sSub (mApp sLen (mCons (mVar 5) mNil)) (mC (.int 1))) mNil)) mNil)))))))))))
  (cSeq (cSet (.one 3) (mBin sIx (mBin sAdd (mVar 3) (mApp sLstF (mCons (mBin sSub (mC (.int 0)) (mC (.int 999999999))) mNil))) (mApp (fnN 2 f__law_take) (mCons (mVar 0) (mCons (mC (.int 10)) mNil)))))
  (cSeq (cSet (.one 4) (mApp (fnN 2 f__law_take) (mCons (mVar 0) (mCons (mC (.int 6)) mNil))))
  (cSeq (cIf (bVal (mBin sEq (mVar 4) (mC (.int 0))))
  (cSetIx (mVar 5) (mVar 2) (mApp sTup (mCons (mVar 7) (mCons (mBin sAdd (mVar 8) (mApp sTup (mCons (mApp sTup (mCons (mC (.str "zzz")) (mCons (mVar 3) mNil))) mNil))) mNil))))
  (cIf (bVal (mBin sEq (mVar 4) (mC (.int 1))))
  (cSetIx (mVar 5) (mVar 2) (mApp sTup (mCons (mVar 7) (mCons (mApp sTuple (mCons (mLc (mIter (mVar 8)) (.many [9, 10]) bYes (mApp sTup (mCons (mVar 9) (mCons (mVar 3) mNil))) [9, 10]) mNil)) mNil))))
  (cIf (bVal (mBin sEq (mVar 4) (mC (.int 2))))
  (cSetIx (mVar 5) (mVar 2) (mApp sTup (mCons (mVar 7) (mCons (mUn sRev (mVar 8)) mNil))))
  (cIf (bVal (mBin sEq (mVar 4) (mC (.int 3))))
  (cSet (.one 6) (mBin sAdd (mVar 6) (mApp sLstF (mCons (mApp sTup (mCons (mC (.str "e")) (mCons (mApp (fnN 2 f__law_take) (mCons (mVar 0) (mCons (mBin sAdd (mApp sLen (mCons (mVar 5) mNil)) (mC (.int 1))) mNil))) mNil))) mNil))))
  (cIf (bVal (mBin sEq (mVar 4) (mC (.int 4))))
  (cSet (.one 6) (mUn sRev (mVar 6)))
  (cExpr (mPopAt (mVar 5) (mVar 2))))))))
  (cRet (mApp sTup (mCons (mApp sTuple (mCons (mVar 5) mNil)) (mCons (mApp sTuple (mCons (mVar 6) mNil)) mNil)))))))))))
def f__law_bent : MF := defM 11 m__law_bent
def m__law_value : MS := (cSeq (cSet (.one 2) (mApp sDict (mCons (mBin sIx (mVar 0) (mC (.int 1))) mNil)))
  (cSeq (cIf (bVal (mBin (sInn true) (mBin sIx (mVar 1) (mC (.int 0))) (mVar 2)))
  (cRet (mC .non))
  cNil)
  (cSeq (cSet (.one 3) (mApp sTup (mCons (mBin sIx (mVar 2) (mBin sIx (mVar 1) (mC (.int 0)))) mNil)))
  (cSeq (cFor (mIter (mSlice (mVar 1) (oSome (mC (.int 1))) oNone)) (.one 4)
  (cSeq (cIf (bNot (bVal (mApp sIsi (mCons (mVar 3) (mCons (mC (.raw (.ty "tuple"))) mNil)))))
  (cRet (mC .non))
  cNil)
  (cSet (.one 3) (mGet (mApp sDict (mCons (mBin sIx (mBin sIx (mBin sIx (mVar 0) (mC (.int 0))) (mBin sIx (mVar 3) (mC (.int 0)))) (mC (.int 1))) mNil)) (mVar 4)))))
  (cRet (mVar 3))))))
def f__law_value : MF := defM 5 m__law_value
def m__law_path : MS := (cSeq (cSet (.one 3) (mLc (mIter (mBin sIx (mVar 1) (mC (.int 1)))) (.many [8, 9]) bYes (mVar 8) [8, 9]))
  (cSeq (cSet (.one 4) (mApp sLstM (mCons (mBin sIx (mVar 3) (mApp (fnN 2 f__law_take) (mCons (mVar 0) (mCons (mApp sLen (mCons (mVar 3) mNil)) mNil)))) mNil)))
  (cSeq (cIf (bVal (mBin sEq (mApp (fnN 2 f__law_take) (mCons (mVar 0) (mCons (mC (.int 12)) mNil))) (mC (.int 0))))
  (cSet (.one 4) (mApp sLstM (mCons (mC (.str "q")) mNil)))
  cNil)
  (cSeq (cSet (.one 5) (mApp (fnN 2 f__law_value) (mCons (mVar 1) (mCons (mApp sTuple (mCons (mVar 4) mNil)) mNil))))
  (cSeq (cFor (mRange1 (mApp (fnN 2 f__law_take) (mCons (mVar 0) (mCons (mVar 2) mNil)))) (.one 6)
  (cSeq (cSet (.one 7) (mApp sLstF (mCons (mC (.str "a")) (mCons (mC (.str "ab")) (mCons (mC (.str "longname")) (mCons (mC (.str "x")) mNil))))))
  (cSeq (cIf (bAnd (bVal (mApp sIsi (mCons (mVar 5) (mCons (mC (.raw (.ty "tuple"))) mNil)))) (bAnd (bVal (mBin sNe (mBin sIx (mBin sIx (mBin sIx (mVar 1) (mC (.int 0))) (mBin sIx (mVar 5) (mC (.int 0)))) (mC (.int 1))) (mApp sTup mNil))) (bVal (mBin sGt (mApp (fnN 2 f__law_take) (mCons (mVar 0) (mCons (mC (.int 8)) mNil))) (mC (.int 0))))))
  (cSet (.one 7) (mLc (mIter (mBin sIx (mBin sIx (mBin sIx (mVar 1) (mC (.int 0))) (mBin sIx (mVar 5) (mC (.int 0)))) (mC (.int 1)))) (.many [8, 10]) bYes (mVar 8) [8, 10]))
  cNil)
  (cSeq (cExpr (mAppend (mVar 4) (mBin sIx (mVar 7) (mApp (fnN 2 f__law_take) (mCons (mVar 0) (mCons (mApp sLen (mCons (mVar 7) mNil)) mNil))))))
  (cSet (.one 5) (mApp (fnN 2 f__law_value) (mCons (mVar 1) (mCons (mApp sTuple (mCons (mVar 4) mNil)) mNil))))))))
  (cRet (mApp sTuple (mCons (mVar 4) mNil))))))))
def f__law_path : MF := defM 11 m__law_path
def v_MOST_WORDS : PV := .int 64
def m_is_path : MS := (cRet (mAnd (mApp (fnN 3 f_is_tuple) (mCons (mVar 0) (mCons (mC (.int 1)) (mCons (mC v_MOST_WORDS) mNil)))) (mApp sAll (mCons (mLc (mIter (mVar 0)) (.one 1) bYes (mApp (fnN 1 f_is_word) (mCons (mVar 1) mNil)) [1]) mNil))))
def f_is_path : MF := defM 2 m_is_path
def m_check_web : MS := (cIf (bNot (bVal (mApp (fnN 1 f_is_web) (mCons (mVar 0) mNil))))
  cBad
  cNil)
def f_check_web : MF := defM 1 m_check_web
def m_check_path : MS := (cIf (bNot (bVal (mApp (fnN 1 f_is_path) (mCons (mVar 0) mNil))))
  cBad
  cNil)
def f_check_path : MF := defM 1 m_check_path
def m_entry : MS := (cSeq (cFor (mIter (mVar 0)) (.many [2, 3])
  (cIf (bVal (mBin sEq (mVar 2) (mVar 1)))
  (cRet (mVar 3))
  cNil))
  (cRet (mC .non)))
def f_entry : MF := defM 4 m_entry
def m_follow : MS := (cSeq (cSet (.many [5, 6]) (mVar 0))
  (cSeq (cSet (.one 2) (mApp (fnN 2 f_entry) (mCons (mVar 6) (mCons (mBin sIx (mVar 1) (mC (.int 0))) mNil))))
  (cSeq (cSet (.one 3) (mIf (bVal (mBin (sIsn false) (mVar 2) (mC .non))) (mC .non) (mApp sTup (mCons (mVar 2) mNil))))
  (cSeq (cFor (mIter (mSlice (mVar 1) (oSome (mC (.int 1))) oNone)) (.one 4)
  (cSeq (cIf (bNot (bVal (mApp sIsi (mCons (mVar 3) (mCons (mC (.raw (.ty "tuple"))) mNil)))))
  (cRet (mC .non))
  cNil)
  (cSet (.one 3) (mApp (fnN 2 f_entry) (mCons (mBin sIx (mBin sIx (mVar 5) (mBin sIx (mVar 3) (mC (.int 0)))) (mC (.int 1))) (mCons (mVar 4) mNil))))))
  (cRet (mVar 3))))))
def f_follow : MF := defM 7 m_follow
def m_answer_at : MS := (cSeq (cSet (.one 2) (mApp (fnN 2 f_follow) (mCons (mVar 0) (mCons (mVar 1) mNil))))
  (cSeq (cIf (bVal (mBin (sIsn false) (mVar 2) (mC .non)))
  (cRet (mC (.str "none")))
  cNil)
  (cSeq (cIf (bNot (bVal (mApp sIsi (mCons (mVar 2) (mCons (mC (.raw (.ty "tuple"))) mNil)))))
  (cRet (mVar 2))
  cNil)
  (cSeq (cSet (.many [3, 4]) (mBin sIx (mBin sIx (mVar 0) (mC (.int 0))) (mBin sIx (mVar 2) (mC (.int 0)))))
  (cRet (mApp sTup (mCons (mVar 3) (mCons (mApp sTuple (mCons (mApp (fnN 1 f_words_of) (mCons (mVar 4) mNil)) mNil)) mNil))))))))
def f_answer_at : MF := defM 5 m_answer_at
def m_look : MS := (cSeq (cExpr (mApp (fnN 1 f_check_web) (mCons (mVar 0) mNil)))
  (cSeq (cExpr (mApp (fnN 1 f_check_path) (mCons (mVar 1) mNil)))
  (cRet (mApp (fnN 2 f_answer_at) (mCons (mVar 0) (mCons (mVar 1) mNil))))))
def f_look : MF := defM 2 m_look
def m_object_at : MS := (cSeq (cSet (.one 2) (mApp (fnN 2 f_follow) (mCons (mVar 0) (mCons (mVar 1) mNil))))
  (cRet (mIf (bVal (mApp sIsi (mCons (mVar 2) (mCons (mC (.raw (.ty "tuple"))) mNil)))) (mBin sIx (mVar 2) (mC (.int 0))) (mC .non))))
def f_object_at : MF := defM 3 m_object_at
def m_place : MS := (cSeq (cExpr (mApp (fnN 1 f_check_web) (mCons (mVar 0) mNil)))
  (cSeq (cExpr (mApp (fnN 1 f_check_path) (mCons (mVar 1) mNil)))
  (cRet (mApp (fnN 2 f_object_at) (mCons (mVar 0) (mCons (mVar 1) mNil))))))
def f_place : MF := defM 2 m_place
def m__law_good_3 : MS := (cSeq (cSet (.one 2) (mApp sStr (mCons (mApp sLstF (mCons (mVar 0) (mCons (mVar 1) mNil))) mNil)))
  (cSeq (cSet (.one 3) (mApp (fnN 2 f__law_value) (mCons (mVar 0) (mCons (mVar 1) mNil))))
  (cSeq (cPar 4 5 (mCons (mApp (fnN 2 f_look) (mCons (mVar 0) (mCons (mVar 1) mNil))) (mCons (mApp (fnN 2 f_place) (mCons (mVar 0) (mCons (mVar 1) mNil))) mNil)))
  (cSeq (cIf (bOr (bVal (mBin sNe (mApp (fnK 2 2 [1, 0] f_look) (mCons (mVar 1) (mCons (mVar 0) mNil))) (mVar 4))) (bOr (bVal (mBin sNe (mApp (fnK 2 2 [1, 0] f_place) (mCons (mVar 1) (mCons (mVar 0) mNil))) (mVar 5))) (bVal (mBin sNe (mApp sStr (mCons (mApp sLstF (mCons (mVar 0) (mCons (mVar 1) mNil))) mNil)) (mVar 2)))))
  (cRet (mC (.bl false)))
  cNil)
  (cSeq (cIf (bOr (bVal (mApp sIsi (mCons (mVar 5) (mCons (mC (.raw (.ty "bool"))) mNil)))) (bVal (mApp sIsi (mCons (mVar 4) (mCons (mC (.raw (.ty "bool"))) mNil)))))
  (cRet (mC (.bl false)))
  cNil)
  (cSeq (cIf (bVal (mBin (sIsn false) (mVar 3) (mC .non)))
  (cRet (mAnd (mBin sEq (mVar 4) (mC (.str "none"))) (mBin (sIsn false) (mVar 5) (mC .non))))
  cNil)
  (cSeq (cIf (bNot (bVal (mApp sIsi (mCons (mVar 3) (mCons (mC (.raw (.ty "tuple"))) mNil)))))
  (cRet (mAnd (mBin sEq (mVar 4) (mVar 3)) (mBin (sIsn false) (mVar 5) (mC .non))))
  cNil)
  (cSeq (cSet (.many [6, 7]) (mBin sIx (mBin sIx (mVar 0) (mC (.int 0))) (mBin sIx (mVar 3) (mC (.int 0)))))
  (cRet (mAnd (mBin sEq (mVar 4) (mApp sTup (mCons (mVar 6) (mCons (mApp sTuple (mCons (mLc (mIter (mVar 7)) (.many [8, 9]) bYes (mVar 8) [8, 9]) mNil)) mNil)))) (mBin sEq (mVar 5) (mBin sIx (mVar 3) (mC (.int 0))))))))))))))
def f__law_good_3 : MF := defM 10 m__law_good_3
def m_law_3 : MS := (cSeq (cFor (mRange1 (mApp sMax2 (mCons (mApp sMin2 (mCons (mApp sLen (mCons (mVar 0) mNil)) (mCons (mC (.int 5)) mNil))) (mCons (mC (.int 1)) mNil)))) (.one 1)
  (cSeq (cSet (.one 5) (mApp sLstM (mCons (mApp (fnN 2 f__law_cell) (mCons (mVar 0) (mCons (mVar 1) mNil))) mNil)))
  (cFor (mRange1 (mC (.int 2))) (.one 6)
  (cSeq (cSet (.one 7) (mApp (fnN 2 f__law_web) (mCons (mVar 5) (mCons (mBin sIx (mApp sLstF (mCons (mC (.int 4)) (mCons (mC (.int 12)) mNil))) (mVar 6)) mNil))))
  (cFor (mRange1 (mC (.int 12))) (.one 8)
  (cSeq (cSet (.one 4) (mApp (fnN 3 f__law_path) (mCons (mVar 5) (mCons (mVar 7) (mCons (mBin sIx (mApp sLstF (mCons (mC (.int 3)) (mCons (mC (.int 12)) mNil))) (mBin sMod (mApp sInt (mCons (mVar 8) mNil)) (mC (.int 2)))) mNil)))))
  (cFor (mIter (mApp sLstF (mCons (mVar 4) (mCons (mBin sAdd (mVar 4) (mApp sTup (mCons (mC (.str "n")) mNil))) (mCons (mSlice (mVar 4) (oSome (mUn sNeg (mC (.int 1)))) oNone) mNil))))) (.one 3)
  (cIf (bNot (bVal (mApp (fnN 2 f__law_good_3) (mCons (mVar 7) (mCons (mVar 3) mNil)))))
  (cRet (mC (.bl false)))
  cNil))))))))
  (cSeq (cSet (.one 2) (mApp sTup (mCons (mApp sTup (mCons (mApp sTup (mCons (mC (.str "open")) (mCons (mApp sTup (mCons (mApp sTup (mCons (mC (.str "n")) (mCons (mApp sTup (mCons (mC (.int 1)) mNil)) mNil))) (mCons (mApp sTup (mCons (mC (.str "x")) (mCons (mC (.int 5)) mNil))) mNil))) mNil))) (mCons (mApp sTup (mCons (mC (.str "frozen")) (mCons (mApp sTup (mCons (mApp sTup (mCons (mC (.str "n")) (mCons (mApp sTup (mCons (mC (.int 0)) mNil)) mNil))) mNil)) mNil))) mNil))) (mCons (mApp sTup (mCons (mApp sTup (mCons (mC (.str "a")) (mCons (mC (.int 0)) mNil))) (mCons (mApp sTup (mCons (mC (.str "b")) (mCons (mC (.int 1)) mNil))) mNil))) mNil))))
  (cSeq (cSet (.one 3) (mApp sLstF (mCons (mBin sAdd (mApp sTup (mCons (mC (.str "a")) mNil)) (mBin sMul (mApp sTup (mCons (mC (.str "n")) mNil)) (mC (.int 63)))) (mCons (mBin sAdd (mBin sAdd (mApp sTup (mCons (mC (.str "b")) mNil)) (mBin sMul (mApp sTup (mCons (mC (.str "n")) mNil)) (mC (.int 62)))) (mApp sTup (mCons (mC (.str "x")) mNil))) (mCons (mBin sAdd (mBin sAdd (mApp sTup (mCons (mC (.str "b")) mNil)) (mBin sMul (mApp sTup (mCons (mC (.str "n")) mNil)) (mC (.int 61)))) (mApp sTup (mCons (mC (.str "x")) mNil))) mNil)))))
  (cSeq (cFor (mIter (mBin sAdd (mVar 3) (mApp sLstF (mCons (mApp sTup (mCons (mC (.str "a")) (mCons (mC (.str "x")) (mCons (mC (.str "n")) mNil)))) (mCons (mApp sTup (mCons (mC (.str "q")) mNil)) mNil))))) (.one 4)
  (cIf (bNot (bVal (mApp (fnN 2 f__law_good_3) (mCons (mVar 2) (mCons (mVar 4) mNil)))))
  (cRet (mC (.bl false)))
  cNil))
  (cSeq (cIf (bVal (mBin sNe (mApp (fnN 2 f_look) (mCons (mVar 2) (mCons (mBin sAdd (mBin sAdd (mApp sTup (mCons (mC (.str "a")) mNil)) (mBin sMul (mApp sTup (mCons (mC (.str "n")) mNil)) (mC (.int 62)))) (mApp sTup (mCons (mC (.str "x")) mNil))) mNil))) (mC (.int 5))))
  (cRet (mC (.bl false)))
  cNil)
  (cRet (mAnd (mBin (sIsn false) (mApp (fnN 2 f_place) (mCons (mVar 2) (mCons (mApp sTup (mCons (mC (.str "a")) (mCons (mC (.str "x")) mNil))) mNil))) (mC .non)) (mBin sEq (mApp (fnN 2 f_place) (mCons (mVar 2) (mCons (mApp sTup (mCons (mC (.str "b")) (mCons (mC (.str "n")) mNil))) mNil))) (mC (.int 0))))))))))
def f_law_3 : MF := defM 9 m_law_3
end Pg
set_option Elab.async false
set_option linter.all false
set_option maxRecDepth 100000
set_option maxHeartbeats 4000000
namespace K03
open PySem PySem.Spec PyProof.Rows L2 Sim Pg
/-! ### the text -/
def topS (i : Nat) : Stmt := PySem.Challenge.pw_openfrozen_k03_paths_and_what_they_lead.main.body.getD i (.Pass ⟨0, 0, 0, 0⟩)
theorem sc_is_int : FnScope ["value"] ["value"] (defScope (topS 13)) := ⟨rfl, rfl, rfl, by decide +kernel, rfl, by decide +kernel, by decide +kernel⟩
theorem ok_is_int [Tb] {T : String → Value} {P : Program} {w : World} {K : PySem.W.Frag} {mg : Str → Option Value} {base : Heap} {f : Addr} {fd : FuncData} (F : Fun K "is_int" "is_int" (topS 13) f fd) (c_LEAST_INT : Co P w K mg base "LEAST_INT" v_LEAST_INT) (c_MOST_INT : Co P w K mg base "MOST_INT" v_MOST_INT) (b_isinstance : mg "isinstance" = none) (b_bool : mg "bool" = none) (b_int : mg "int" = none) : FnG P w K mg base CX0 1 f fd ["value"] (spM T K 1 f_is_int) :=
  y_def F sc_is_int fun cdv A outer s H E gd hr =>
  ((s_one (s_ret (x_and (x_callB call_isi n_isi (by rfl) b_isinstance (by decide +kernel) (x_cons (x_var 0 rfl (by first | exact .inl rfl | exact .inr (.inl rfl) | exact .inr (.inr rfl))) (x_cons (x_ty (by rfl) b_int (by decide +kernel)) x_nil))) (x_and (x_not (x_callB call_isi n_isi (by rfl) b_isinstance (by decide +kernel) (x_cons (x_var 0 rfl (by first | exact .inl rfl | exact .inr (.inl rfl) | exact .inr (.inr rfl))) (x_cons (x_ty (by rfl) b_bool (by decide +kernel)) x_nil)))) (x_one (x_chain o_le s_ord o_le s_ord c_LEAST_INT.ex (x_var 0 rfl (by first | exact .inl rfl | exact .inr (.inl rfl) | exact .inr (.inr rfl))) c_MOST_INT.ex)))))) : SXs (cxOf CX0 P w K mg base ["value"] "is_int" (defScope (topS 13)) f cdv A outer s H E).nox T E0 (defBody (topS 13)) m_is_int)
theorem sc_is_word : FnScope ["value", "sign"] ["value"] (defScope (topS 14)) := ⟨rfl, rfl, rfl, by decide +kernel, rfl, by decide +kernel, by decide +kernel⟩
theorem ok_is_word [Tb] {T : String → Value} {P : Program} {w : World} {K : PySem.W.Frag} {mg : Str → Option Value} {base : Heap} {f : Addr} {fd : FuncData} (F : Fun K "is_word" "is_word" (topS 14) f fd) (c_MOST_LETTERS : Co P w K mg base "MOST_LETTERS" v_MOST_LETTERS) (b_all : mg "all" = none) (b_len : mg "len" = none) (b_isinstance : mg "isinstance" = none) (b_str : mg "str" = none) : FnG P w K mg base CX0 1 f fd ["value"] (spM T K 1 f_is_word) :=
  y_def F sc_is_word fun cdv A outer s H E gd hr =>
  ((s_cons (s_if (PW.pt (t_or (t_not (t_val (x_callB call_isi n_isi (by rfl) b_isinstance (by decide +kernel) (x_cons (x_var 0 rfl (by first | exact .inl rfl | exact .inr (.inl rfl) | exact .inr (.inr rfl))) (x_cons (x_ty (by rfl) b_str (by decide +kernel)) x_nil))))) (t_or1 (t_not (t_chain o_le s_ord o_le s_ord x_int (x_callB call_len n_len (by rfl) b_len (by decide +kernel) (x_cons (x_var 0 rfl (by first | exact .inl rfl | exact .inr (.inl rfl) | exact .inr (.inr rfl))) x_nil)) c_MOST_LETTERS.ex)))))
  (s_one (s_ret x_bl))
  s_nil)
  (s_one (s_ret (x_callB (cr_all rfl) n_all (by rfl) b_all (by decide +kernel) (x_cons (x_lc (own := [("sign", 1)]) rfl sc_is_word.nd (i_any (x_var 0 rfl (by first | exact .inl rfl | exact .inr (.inl rfl) | exact .inr (.inr rfl)))) (blkOk_by (N := ["value", "sign"]) (sc := defScope (topS 14)) (by decide +kernel)) (fun _ _ _ _ _ => (g_one sc_is_word.nd (i := 1) rfl (by first | exact .inl rfl | exact .inr rfl) (by first | exact .inl rfl | exact .inr rfl))) (fun _ _ _ _ _ => c_nil) (fun _ _ _ _ _ => (x_chain o_le s_ord o_le s_ord x_str (x_var 1 rfl (by first | exact .inl rfl | exact .inr (.inl rfl) | exact .inr (.inr rfl))) x_str)) (by decide)) x_nil))))) : SXs (cxOf CX0 P w K mg base ["value", "sign"] "is_word" (defScope (topS 14)) f cdv A outer s H E).nox T E0 (defBody (topS 14)) m_is_word)
theorem sc_words_of : FnScope ["pairs", "pair"] ["pairs"] (defScope (topS 15)) := ⟨rfl, rfl, rfl, by decide +kernel, rfl, by decide +kernel, by decide +kernel⟩
theorem ok_words_of [Tb] {T : String → Value} {P : Program} {w : World} {K : PySem.W.Frag} {mg : Str → Option Value} {base : Heap} {f : Addr} {fd : FuncData} (F : Fun K "words_of" "words_of" (topS 15) f fd)  : FnG P w K mg base CX0 1 f fd ["pairs"] (spM T K 1 f_words_of) :=
  y_def F sc_words_of fun cdv A outer s H E gd hr =>
  ((s_one (s_ret (x_lc (own := [("pair", 1)]) rfl sc_words_of.nd (i_any (x_var 0 rfl (by first | exact .inl rfl | exact .inr (.inl rfl) | exact .inr (.inr rfl)))) (blkOk_by (N := ["pairs", "pair"]) (sc := defScope (topS 15)) (by decide +kernel)) (fun _ _ _ _ _ => (g_one sc_words_of.nd (i := 1) rfl (by first | exact .inl rfl | exact .inr rfl) (by first | exact .inl rfl | exact .inr rfl))) (fun _ _ _ _ _ => c_nil) (fun _ _ _ _ _ => (x_ix (o_ix (hu65 hr)) s_ix (x_var 1 rfl (by first | exact .inl rfl | exact .inr (.inl rfl) | exact .inr (.inr rfl))) x_int (fun _ _ => rfl))) (by decide)))) : SXs (cxOf CX0 P w K mg base ["pairs", "pair"] "words_of" (defScope (topS 15)) f cdv A outer s H E).nox T E0 (defBody (topS 15)) m_words_of)
theorem sc_is_tuple : FnScope ["value", "least", "most"] ["value", "least", "most"] (defScope (topS 16)) := ⟨rfl, rfl, rfl, by decide +kernel, rfl, by decide +kernel, by decide +kernel⟩
theorem ok_is_tuple [Tb] {T : String → Value} {P : Program} {w : World} {K : PySem.W.Frag} {mg : Str → Option Value} {base : Heap} {f : Addr} {fd : FuncData} (F : Fun K "is_tuple" "is_tuple" (topS 16) f fd) (b_len : mg "len" = none) (b_isinstance : mg "isinstance" = none) (b_tuple : mg "tuple" = none) : FnG P w K mg base CX0 1 f fd ["value", "least", "most"] (spM T K 3 f_is_tuple) :=
  y_def F sc_is_tuple fun cdv A outer s H E gd hr =>
  ((s_one (s_ret (x_and (x_callB call_isi n_isi (by rfl) b_isinstance (by decide +kernel) (x_cons (x_var 0 rfl (by first | exact .inl rfl | exact .inr (.inl rfl) | exact .inr (.inr rfl))) (x_cons (x_ty (by rfl) b_tuple (by decide +kernel)) x_nil))) (x_one (x_chain o_le s_ord o_le s_ord (x_var 1 rfl (by first | exact .inl rfl | exact .inr (.inl rfl) | exact .inr (.inr rfl))) (x_callB call_len n_len (by rfl) b_len (by decide +kernel) (x_cons (x_var 0 rfl (by first | exact .inl rfl | exact .inr (.inl rfl) | exact .inr (.inr rfl))) x_nil)) (x_var 2 rfl (by first | exact .inl rfl | exact .inr (.inl rfl) | exact .inr (.inr rfl)))))))) : SXs (cxOf CX0 P w K mg base ["value", "least", "most"] "is_tuple" (defScope (topS 16)) f cdv A outer s H E).nox T E0 (defBody (topS 16)) m_is_tuple)
theorem sc_is_number : FnScope ["value", "many"] ["value", "many"] (defScope (topS 17)) := ⟨rfl, rfl, rfl, by decide +kernel, rfl, by decide +kernel, by decide +kernel⟩
theorem ok_is_number [Tb] {T : String → Value} {P : Program} {w : World} {K : PySem.W.Frag} {mg : Str → Option Value} {base : Heap} {f : Addr} {fd : FuncData} (F : Fun K "is_number" "is_number" (topS 17) f fd) (d_is_int : Df P w K mg base T "is_int" 1 ["value"] f_is_int) : FnG P w K mg base CX0 2 f fd ["value", "many"] (spM T K 2 f_is_number) :=
  y_def F sc_is_number fun cdv A outer s H E gd hr =>
  ((s_one (s_ret (x_and (y_call d_is_int gd hr (by decide) (by rfl) (x_cons (x_var 0 rfl (by first | exact .inl rfl | exact .inr (.inl rfl) | exact .inr (.inr rfl))) x_nil)) (x_one (x_chain o_le s_ord o_lt s_ord x_int (x_var 0 rfl (by first | exact .inl rfl | exact .inr (.inl rfl) | exact .inr (.inr rfl))) (x_var 1 rfl (by first | exact .inl rfl | exact .inr (.inl rfl) | exact .inr (.inr rfl)))))))) : SXs (cxOf CX0 P w K mg base ["value", "many"] "is_number" (defScope (topS 17)) f cdv A outer s H E).nox T E0 (defBody (topS 17)) m_is_number)
theorem sc_is_field_value : FnScope ["value", "many"] ["value", "many"] (defScope (topS 18)) := ⟨rfl, rfl, rfl, by decide +kernel, rfl, by decide +kernel, by decide +kernel⟩
theorem ok_is_field_value [Tb] {T : String → Value} {P : Program} {w : World} {K : PySem.W.Frag} {mg : Str → Option Value} {base : Heap} {f : Addr} {fd : FuncData} (F : Fun K "is_field_value" "is_field_value" (topS 18) f fd) (d_is_number : Df P w K mg base T "is_number" 2 ["value", "many"] f_is_number) (d_is_tuple : Df P w K mg base T "is_tuple" 1 ["value", "least", "most"] f_is_tuple) (d_is_int : Df P w K mg base T "is_int" 1 ["value"] f_is_int) : FnG P w K mg base CX0 3 f fd ["value", "many"] (spM T K 2 f_is_field_value) :=
  y_def F sc_is_field_value fun cdv A outer s H E gd hr =>
  ((s_one (s_ret (x_or (y_call d_is_int gd hr (by decide) (by rfl) (x_cons (x_var 0 rfl (by first | exact .inl rfl | exact .inr (.inl rfl) | exact .inr (.inr rfl))) x_nil)) (x_one (x_and (y_call d_is_tuple gd hr (by decide) (by rfl) (x_cons (x_var 0 rfl (by first | exact .inl rfl | exact .inr (.inl rfl) | exact .inr (.inr rfl))) (x_cons x_int (x_cons x_int x_nil)))) (x_one (y_call d_is_number gd hr (by decide) (by rfl) (x_cons (x_ix (o_ix (hu65 hr)) s_ix (x_var 0 rfl (by first | exact .inl rfl | exact .inr (.inl rfl) | exact .inr (.inr rfl))) x_int (fun _ _ => rfl)) (x_cons (x_var 1 rfl (by first | exact .inl rfl | exact .inr (.inl rfl) | exact .inr (.inr rfl))) x_nil))))))))) : SXs (cxOf CX0 P w K mg base ["value", "many"] "is_field_value" (defScope (topS 18)) f cdv A outer s H E).nox T E0 (defBody (topS 18)) m_is_field_value)
theorem sc_is_table : FnScope ["value", "least", "most", "words", "pair"] ["value", "least", "most"] (defScope (topS 19)) := ⟨rfl, rfl, rfl, by decide +kernel, rfl, by decide +kernel, by decide +kernel⟩
theorem ok_is_table [Tb] {T : String → Value} {P : Program} {w : World} {K : PySem.W.Frag} {mg : Str → Option Value} {base : Heap} {f : Addr} {fd : FuncData} (F : Fun K "is_table" "is_table" (topS 19) f fd) (b_sorted : mg "sorted" = none) (b_set : mg "set" = none) (b_all : mg "all" = none) (d_words_of : Df P w K mg base T "words_of" 1 ["pairs"] f_words_of) (d_is_word : Df P w K mg base T "is_word" 1 ["value"] f_is_word) (d_is_tuple : Df P w K mg base T "is_tuple" 1 ["value", "least", "most"] f_is_tuple) : FnG P w K mg base CX0 2 f fd ["value", "least", "most"] (spM T K 3 f_is_table) :=
  y_def F sc_is_table fun cdv A outer s H E gd hr =>
  ((s_cons (s_if (t_not (t_val (y_call d_is_tuple gd hr (by decide) (by rfl) (x_cons (x_var 0 rfl (by first | exact .inl rfl | exact .inr (.inl rfl) | exact .inr (.inr rfl))) (x_cons (x_var 1 rfl (by first | exact .inl rfl | exact .inr (.inl rfl) | exact .inr (.inr rfl))) (x_cons (x_var 2 rfl (by first | exact .inl rfl | exact .inr (.inl rfl) | exact .inr (.inr rfl))) x_nil))))))
  (s_one (s_ret x_bl))
  s_nil)
  (s_cons (s_if (t_not (t_val (x_callB (cr_all rfl) n_all (by rfl) b_all (by decide +kernel) (x_cons (x_lc (own := [("pair", 4)]) rfl sc_is_table.nd (i_any (x_var 0 rfl (by first | exact .inl rfl | exact .inr (.inl rfl) | exact .inr (.inr rfl)))) (blkOk_by (N := ["value", "least", "most", "words", "pair"]) (sc := defScope (topS 19)) (by decide +kernel)) (fun _ _ _ _ _ => (g_one sc_is_table.nd (i := 4) rfl (by first | exact .inl rfl | exact .inr rfl) (by first | exact .inl rfl | exact .inr rfl))) (fun _ _ _ _ _ => c_nil) (fun _ _ _ _ _ => (x_and (y_call d_is_tuple gd hr (by decide) (by rfl) (x_cons (x_var 4 rfl (by first | exact .inl rfl | exact .inr (.inl rfl) | exact .inr (.inr rfl))) (x_cons x_int (x_cons x_int x_nil)))) (x_one (y_call d_is_word gd hr (by decide) (by rfl) (x_cons (x_ix (o_ix (hu65 hr)) s_ix (x_var 4 rfl (by first | exact .inl rfl | exact .inr (.inl rfl) | exact .inr (.inr rfl))) x_int (fun _ _ => rfl)) x_nil))))) (by decide)) x_nil))))
  (s_one (s_ret x_bl))
  s_nil)
  (s_cons (s_set (i := 3) sc_is_table.nd rfl (by first | exact .inl rfl | exact .inr rfl) (y_call d_words_of gd hr (by decide) (by rfl) (x_cons (x_var 0 rfl (by first | exact .inl rfl | exact .inr (.inl rfl) | exact .inr (.inr rfl))) x_nil)))
  (s_one (s_ret (x_cmp (o_eq2 (hu64 hr)) s_eq (x_var 3 rfl (by first | exact .inl rfl | exact .inr (.inl rfl) | exact .inr (.inr rfl))) (x_sortset rfl (by rfl) b_sorted (by rfl) b_set (x_var 3 rfl (by first | exact .inl rfl | exact .inr (.inl rfl) | exact .inr (.inr rfl)))) (nomark _))))))) : SXs (cxOf CX0 P w K mg base ["value", "least", "most", "words", "pair"] "is_table" (defScope (topS 19)) f cdv A outer s H E).nox T E0 (defBody (topS 19)) m_is_table)
theorem sc_is_object : FnScope ["value", "many", "fields", "pair"] ["value", "many"] (defScope (topS 20)) := ⟨rfl, rfl, rfl, by decide +kernel, rfl, by decide +kernel, by decide +kernel⟩
theorem ok_is_object [Tb] {T : String → Value} {P : Program} {w : World} {K : PySem.W.Frag} {mg : Str → Option Value} {base : Heap} {f : Addr} {fd : FuncData} (F : Fun K "is_object" "is_object" (topS 20) f fd) (c_MOST_FIELDS : Co P w K mg base "MOST_FIELDS" v_MOST_FIELDS) (c_KINDS : Co P w K mg base "KINDS" v_KINDS) (b_all : mg "all" = none) (d_is_field_value : Df P w K mg base T "is_field_value" 3 ["value", "many"] f_is_field_value) (d_is_table : Df P w K mg base T "is_table" 2 ["value", "least", "most"] f_is_table) (d_is_tuple : Df P w K mg base T "is_tuple" 1 ["value", "least", "most"] f_is_tuple) : FnG P w K mg base CX0 4 f fd ["value", "many"] (spM T K 2 f_is_object) :=
  y_def F sc_is_object fun cdv A outer s H E gd hr =>
  ((s_cons (s_if (PW.pt (t_or (t_not (t_val (y_call d_is_tuple gd hr (by decide) (by rfl) (x_cons (x_var 0 rfl (by first | exact .inl rfl | exact .inr (.inl rfl) | exact .inr (.inr rfl))) (x_cons x_int (x_cons x_int x_nil)))))) (t_or1 (t_cmp (o_notin (hu65 hr)) s_notin (x_ix (o_ix (hu65 hr)) s_ix (x_var 0 rfl (by first | exact .inl rfl | exact .inr (.inl rfl) | exact .inr (.inr rfl))) x_int (fun _ _ => rfl)) c_KINDS.ex (by rfl)))))
  (s_one (s_ret x_bl))
  s_nil)
  (s_cons (s_set (i := 2) sc_is_object.nd rfl (by first | exact .inl rfl | exact .inr rfl) (x_ix (o_ix (hu65 hr)) s_ix (x_var 0 rfl (by first | exact .inl rfl | exact .inr (.inl rfl) | exact .inr (.inr rfl))) x_int (fun _ _ => rfl)))
  (s_one (s_ret (x_and (y_call d_is_table gd hr (by decide) (by rfl) (x_cons (x_var 2 rfl (by first | exact .inl rfl | exact .inr (.inl rfl) | exact .inr (.inr rfl))) (x_cons x_int (x_cons c_MOST_FIELDS.ex x_nil)))) (x_one (x_callB (cr_all rfl) n_all (by rfl) b_all (by decide +kernel) (x_cons (x_lc (own := [("pair", 3)]) rfl sc_is_object.nd (i_any (x_var 2 rfl (by first | exact .inl rfl | exact .inr (.inl rfl) | exact .inr (.inr rfl)))) (blkOk_by (N := ["value", "many", "fields", "pair"]) (sc := defScope (topS 20)) (by decide +kernel)) (fun _ _ _ _ _ => (g_one sc_is_object.nd (i := 3) rfl (by first | exact .inl rfl | exact .inr rfl) (by first | exact .inl rfl | exact .inr rfl))) (fun _ _ _ _ _ => c_nil) (fun _ _ _ _ _ => (y_call d_is_field_value gd hr (by decide) (by rfl) (x_cons (x_ix (o_ix (hu65 hr)) s_ix (x_var 3 rfl (by first | exact .inl rfl | exact .inr (.inl rfl) | exact .inr (.inr rfl))) x_int (fun _ _ => rfl)) (x_cons (x_var 1 rfl (by first | exact .inl rfl | exact .inr (.inl rfl) | exact .inr (.inr rfl))) x_nil)))) (by decide)) x_nil)))))))) : SXs (cxOf CX0 P w K mg base ["value", "many", "fields", "pair"] "is_object" (defScope (topS 20)) f cdv A outer s H E).nox T E0 (defBody (topS 20)) m_is_object)
theorem sc_is_names : FnScope ["value", "many", "pair"] ["value", "many"] (defScope (topS 21)) := ⟨rfl, rfl, rfl, by decide +kernel, rfl, by decide +kernel, by decide +kernel⟩
theorem ok_is_names [Tb] {T : String → Value} {P : Program} {w : World} {K : PySem.W.Frag} {mg : Str → Option Value} {base : Heap} {f : Addr} {fd : FuncData} (F : Fun K "is_names" "is_names" (topS 21) f fd) (c_MOST_NAMES : Co P w K mg base "MOST_NAMES" v_MOST_NAMES) (b_all : mg "all" = none) (d_is_number : Df P w K mg base T "is_number" 2 ["value", "many"] f_is_number) (d_is_table : Df P w K mg base T "is_table" 2 ["value", "least", "most"] f_is_table) : FnG P w K mg base CX0 3 f fd ["value", "many"] (spM T K 2 f_is_names) :=
  y_def F sc_is_names fun cdv A outer s H E gd hr =>
  ((s_one (s_ret (x_and (y_call d_is_table gd hr (by decide) (by rfl) (x_cons (x_var 0 rfl (by first | exact .inl rfl | exact .inr (.inl rfl) | exact .inr (.inr rfl))) (x_cons x_int (x_cons c_MOST_NAMES.ex x_nil)))) (x_one (x_callB (cr_all rfl) n_all (by rfl) b_all (by decide +kernel) (x_cons (x_lc (own := [("pair", 2)]) rfl sc_is_names.nd (i_any (x_var 0 rfl (by first | exact .inl rfl | exact .inr (.inl rfl) | exact .inr (.inr rfl)))) (blkOk_by (N := ["value", "many", "pair"]) (sc := defScope (topS 21)) (by decide +kernel)) (fun _ _ _ _ _ => (g_one sc_is_names.nd (i := 2) rfl (by first | exact .inl rfl | exact .inr rfl) (by first | exact .inl rfl | exact .inr rfl))) (fun _ _ _ _ _ => c_nil) (fun _ _ _ _ _ => (y_call d_is_number gd hr (by decide) (by rfl) (x_cons (x_ix (o_ix (hu65 hr)) s_ix (x_var 2 rfl (by first | exact .inl rfl | exact .inr (.inl rfl) | exact .inr (.inr rfl))) x_int (fun _ _ => rfl)) (x_cons (x_var 1 rfl (by first | exact .inl rfl | exact .inr (.inl rfl) | exact .inr (.inr rfl))) x_nil)))) (by decide)) x_nil)))))) : SXs (cxOf CX0 P w K mg base ["value", "many", "pair"] "is_names" (defScope (topS 21)) f cdv A outer s H E).nox T E0 (defBody (topS 21)) m_is_names)
theorem sc_is_web : FnScope ["value", "many", "objects", "names", "item"] ["value"] (defScope (topS 23)) := ⟨rfl, rfl, rfl, by decide +kernel, rfl, by decide +kernel, by decide +kernel⟩
theorem ok_is_web [Tb] {T : String → Value} {P : Program} {w : World} {K : PySem.W.Frag} {mg : Str → Option Value} {base : Heap} {f : Addr} {fd : FuncData} (F : Fun K "is_web" "is_web" (topS 23) f fd) (c_MOST_OBJECTS : Co P w K mg base "MOST_OBJECTS" v_MOST_OBJECTS) (b_all : mg "all" = none) (b_len : mg "len" = none) (d_is_object : Df P w K mg base T "is_object" 4 ["value", "many"] f_is_object) (d_is_names : Df P w K mg base T "is_names" 3 ["value", "many"] f_is_names) (d_is_tuple : Df P w K mg base T "is_tuple" 1 ["value", "least", "most"] f_is_tuple) : FnG P w K mg base CX0 5 f fd ["value"] (spM T K 1 f_is_web) :=
  y_def F sc_is_web fun cdv A outer s H E gd hr =>
  ((s_cons (s_if (PW.pt (t_or (t_not (t_val (y_call d_is_tuple gd hr (by decide) (by rfl) (x_cons (x_var 0 rfl (by first | exact .inl rfl | exact .inr (.inl rfl) | exact .inr (.inr rfl))) (x_cons x_int (x_cons x_int x_nil)))))) (t_or1 (t_not (t_val (y_call d_is_tuple gd hr (by decide) (by rfl) (x_cons (x_ix (o_ix (hu65 hr)) s_ix (x_var 0 rfl (by first | exact .inl rfl | exact .inr (.inl rfl) | exact .inr (.inr rfl))) x_int (fun _ _ => rfl)) (x_cons x_int (x_cons c_MOST_OBJECTS.ex x_nil)))))))))
  (s_one (s_ret x_bl))
  s_nil)
  (s_cons (s_asg (x_var 0 rfl (by first | exact .inl rfl | exact .inr (.inl rfl) | exact .inr (.inr rfl))) (g_many rfl (g_cons (g_one sc_is_web.nd (i := 2) rfl (by first | exact .inl rfl | exact .inr rfl) (by first | exact .inl rfl | exact .inr rfl)) (g_cons (g_one sc_is_web.nd (i := 3) rfl (by first | exact .inl rfl | exact .inr rfl) (by first | exact .inl rfl | exact .inr rfl)) g_nil))))
  (s_cons (s_set (i := 1) sc_is_web.nd rfl (by first | exact .inl rfl | exact .inr rfl) (x_callB call_len n_len (by rfl) b_len (by decide +kernel) (x_cons (x_var 2 rfl (by first | exact .inl rfl | exact .inr (.inl rfl) | exact .inr (.inr rfl))) x_nil)))
  (s_one (s_ret (x_and (y_call d_is_names gd hr (by decide) (by rfl) (x_cons (x_var 3 rfl (by first | exact .inl rfl | exact .inr (.inl rfl) | exact .inr (.inr rfl))) (x_cons (x_var 1 rfl (by first | exact .inl rfl | exact .inr (.inl rfl) | exact .inr (.inr rfl))) x_nil))) (x_one (x_callB (cr_all rfl) n_all (by rfl) b_all (by decide +kernel) (x_cons (x_lc (own := [("item", 4)]) rfl sc_is_web.nd (i_any (x_var 2 rfl (by first | exact .inl rfl | exact .inr (.inl rfl) | exact .inr (.inr rfl)))) (blkOk_by (N := ["value", "many", "objects", "names", "item"]) (sc := defScope (topS 23)) (by decide +kernel)) (fun _ _ _ _ _ => (g_one sc_is_web.nd (i := 4) rfl (by first | exact .inl rfl | exact .inr rfl) (by first | exact .inl rfl | exact .inr rfl))) (fun _ _ _ _ _ => c_nil) (fun _ _ _ _ _ => (y_call d_is_object gd hr (by decide) (by rfl) (x_cons (x_var 4 rfl (by first | exact .inl rfl | exact .inr (.inl rfl) | exact .inr (.inr rfl))) (x_cons (x_var 1 rfl (by first | exact .inl rfl | exact .inr (.inl rfl) | exact .inr (.inr rfl))) x_nil)))) (by decide)) x_nil))))))))) : SXs (cxOf CX0 P w K mg base ["value", "many", "objects", "names", "item"] "is_web" (defScope (topS 23)) f cdv A outer s H E).nox T E0 (defBody (topS 23)) m_is_web)
theorem sc_is_path : FnScope ["value", "word"] ["value"] (defScope (topS 24)) := ⟨rfl, rfl, rfl, by decide +kernel, rfl, by decide +kernel, by decide +kernel⟩
theorem ok_is_path [Tb] {T : String → Value} {P : Program} {w : World} {K : PySem.W.Frag} {mg : Str → Option Value} {base : Heap} {f : Addr} {fd : FuncData} (F : Fun K "is_path" "is_path" (topS 24) f fd) (c_MOST_WORDS : Co P w K mg base "MOST_WORDS" v_MOST_WORDS) (b_all : mg "all" = none) (d_is_word : Df P w K mg base T "is_word" 1 ["value"] f_is_word) (d_is_tuple : Df P w K mg base T "is_tuple" 1 ["value", "least", "most"] f_is_tuple) : FnG P w K mg base CX0 2 f fd ["value"] (spM T K 1 f_is_path) :=
  y_def F sc_is_path fun cdv A outer s H E gd hr =>
  ((s_one (s_ret (x_and (y_call d_is_tuple gd hr (by decide) (by rfl) (x_cons (x_var 0 rfl (by first | exact .inl rfl | exact .inr (.inl rfl) | exact .inr (.inr rfl))) (x_cons x_int (x_cons c_MOST_WORDS.ex x_nil)))) (x_one (x_callB (cr_all rfl) n_all (by rfl) b_all (by decide +kernel) (x_cons (x_lc (own := [("word", 1)]) rfl sc_is_path.nd (i_any (x_var 0 rfl (by first | exact .inl rfl | exact .inr (.inl rfl) | exact .inr (.inr rfl)))) (blkOk_by (N := ["value", "word"]) (sc := defScope (topS 24)) (by decide +kernel)) (fun _ _ _ _ _ => (g_one sc_is_path.nd (i := 1) rfl (by first | exact .inl rfl | exact .inr rfl) (by first | exact .inl rfl | exact .inr rfl))) (fun _ _ _ _ _ => c_nil) (fun _ _ _ _ _ => (y_call d_is_word gd hr (by decide) (by rfl) (x_cons (x_var 1 rfl (by first | exact .inl rfl | exact .inr (.inl rfl) | exact .inr (.inr rfl))) x_nil))) (by decide)) x_nil)))))) : SXs (cxOf CX0 P w K mg base ["value", "word"] "is_path" (defScope (topS 24)) f cdv A outer s H E).nox T E0 (defBody (topS 24)) m_is_path)
theorem sc_check_web : FnScope ["web"] ["web"] (defScope (topS 25)) := ⟨rfl, rfl, rfl, by decide +kernel, rfl, by decide +kernel, by decide +kernel⟩
theorem ok_check_web [Tb] {T : String → Value} {P : Program} {w : World} {K : PySem.W.Frag} {mg : Str → Option Value} {base : Heap} {f : Addr} {fd : FuncData} (F : Fun K "check_web" "check_web" (topS 25) f fd) (d_is_web : Df P w K mg base T "is_web" 5 ["value"] f_is_web) : FnG P w K mg base CX0 6 f fd ["web"] (spM T K 1 f_check_web) :=
  y_def F sc_check_web fun cdv A outer s H E gd hr =>
  ((s_one (s_if (t_not (t_val (y_call d_is_web gd hr (by decide) (by rfl) (x_cons (x_var 0 rfl (by first | exact .inl rfl | exact .inr (.inl rfl) | exact .inr (.inr rfl))) x_nil))))
  (s_one s_bad)
  s_nil)) : SXs (cxOf CX0 P w K mg base ["web"] "check_web" (defScope (topS 25)) f cdv A outer s H E).nox T E0 (defBody (topS 25)) m_check_web)
theorem sc_check_path : FnScope ["path"] ["path"] (defScope (topS 26)) := ⟨rfl, rfl, rfl, by decide +kernel, rfl, by decide +kernel, by decide +kernel⟩
theorem ok_check_path [Tb] {T : String → Value} {P : Program} {w : World} {K : PySem.W.Frag} {mg : Str → Option Value} {base : Heap} {f : Addr} {fd : FuncData} (F : Fun K "check_path" "check_path" (topS 26) f fd) (d_is_path : Df P w K mg base T "is_path" 2 ["value"] f_is_path) : FnG P w K mg base CX0 3 f fd ["path"] (spM T K 1 f_check_path) :=
  y_def F sc_check_path fun cdv A outer s H E gd hr =>
  ((s_one (s_if (t_not (t_val (y_call d_is_path gd hr (by decide) (by rfl) (x_cons (x_var 0 rfl (by first | exact .inl rfl | exact .inr (.inl rfl) | exact .inr (.inr rfl))) x_nil))))
  (s_one s_bad)
  s_nil)) : SXs (cxOf CX0 P w K mg base ["path"] "check_path" (defScope (topS 26)) f cdv A outer s H E).nox T E0 (defBody (topS 26)) m_check_path)
theorem sc_entry : FnScope ["pairs", "word", "key", "value"] ["pairs", "word"] (defScope (topS 27)) := ⟨rfl, rfl, rfl, by decide +kernel, rfl, by decide +kernel, by decide +kernel⟩
theorem ok_entry [Tb] {T : String → Value} {P : Program} {w : World} {K : PySem.W.Frag} {mg : Str → Option Value} {base : Heap} {f : Addr} {fd : FuncData} (F : Fun K "entry" "entry" (topS 27) f fd)  : FnG P w K mg base CX0 1 f fd ["pairs", "word"] (spM T K 2 f_entry) :=
  y_def F sc_entry fun cdv A outer s H E gd hr =>
  ((s_cons (s_for PassesOwn.never rfl (i_any (x_var 0 rfl (by first | exact .inl rfl | exact .inr (.inl rfl) | exact .inr (.inr rfl)))) (g_many rfl (g_cons (g_one sc_entry.nd (i := 2) rfl (by first | exact .inl rfl | exact .inr rfl) (by first | exact .inl rfl | exact .inr rfl)) (g_cons (g_one sc_entry.nd (i := 3) rfl (by first | exact .inl rfl | exact .inr rfl) (by first | exact .inl rfl | exact .inr rfl)) g_nil)))
  (s_one (s_if (t_cmp (o_eq2 (hu64 hr)) s_eq (x_var 2 rfl (by first | exact .inl rfl | exact .inr (.inl rfl) | exact .inr (.inr rfl))) (x_var 1 rfl (by first | exact .inl rfl | exact .inr (.inl rfl) | exact .inr (.inr rfl))) (nomark _))
  (s_one (s_ret (x_var 3 rfl (by first | exact .inl rfl | exact .inr (.inl rfl) | exact .inr (.inr rfl)))))
  s_nil)))
  (s_one (s_ret x_non))) : SXs (cxOf CX0 P w K mg base ["pairs", "word", "key", "value"] "entry" (defScope (topS 27)) f cdv A outer s H E).nox T E0 (defBody (topS 27)) m_entry)
theorem sc_follow : FnScope ["web", "path", "number", "value", "word", "objects", "names"] ["web", "path"] (defScope (topS 28)) := ⟨rfl, rfl, rfl, by decide +kernel, rfl, by decide +kernel, by decide +kernel⟩
theorem ok_follow [Tb] {T : String → Value} {P : Program} {w : World} {K : PySem.W.Frag} {mg : Str → Option Value} {base : Heap} {f : Addr} {fd : FuncData} (F : Fun K "follow" "follow" (topS 28) f fd) (b_isinstance : mg "isinstance" = none) (b_tuple : mg "tuple" = none) (d_entry : Df P w K mg base T "entry" 1 ["pairs", "word"] f_entry) : FnG P w K mg base CX0 2 f fd ["web", "path"] (spM T K 2 f_follow) :=
  y_def F sc_follow fun cdv A outer s H E gd hr =>
  ((s_cons (s_asg (x_var 0 rfl (by first | exact .inl rfl | exact .inr (.inl rfl) | exact .inr (.inr rfl))) (g_many rfl (g_cons (g_one sc_follow.nd (i := 5) rfl (by first | exact .inl rfl | exact .inr rfl) (by first | exact .inl rfl | exact .inr rfl)) (g_cons (g_one sc_follow.nd (i := 6) rfl (by first | exact .inl rfl | exact .inr rfl) (by first | exact .inl rfl | exact .inr rfl)) g_nil))))
  (s_cons (s_set (i := 2) sc_follow.nd rfl (by first | exact .inl rfl | exact .inr rfl) (y_call d_entry gd hr (by decide) (by rfl) (x_cons (x_var 6 rfl (by first | exact .inl rfl | exact .inr (.inl rfl) | exact .inr (.inr rfl))) (x_cons (x_ix (o_ix (hu65 hr)) s_ix (x_var 1 rfl (by first | exact .inl rfl | exact .inr (.inl rfl) | exact .inr (.inr rfl))) x_int (fun _ _ => rfl)) x_nil))))
  (s_cons (s_set (i := 3) sc_follow.nd rfl (by first | exact .inl rfl | exact .inr rfl) (x_if (t_cmp o_is s_is (x_var 2 rfl (by first | exact .inl rfl | exact .inr (.inl rfl) | exact .inr (.inr rfl))) x_non (nomark _)) x_non (x_tup (x_cons (x_var 2 rfl (by first | exact .inl rfl | exact .inr (.inl rfl) | exact .inr (.inr rfl))) x_nil))))
  (s_cons (s_for PassesOwn.never rfl (i_any (x_slice (x_var 1 rfl (by first | exact .inl rfl | exact .inr (.inl rfl) | exact .inr (.inr rfl))) (x_osome x_int) x_onone)) (g_one sc_follow.nd (i := 4) rfl (by first | exact .inl rfl | exact .inr rfl) (by first | exact .inl rfl | exact .inr rfl))
  (s_cons (s_if (t_not (t_val (x_callB call_isi n_isi (by rfl) b_isinstance (by decide +kernel) (x_cons (x_var 3 rfl (by first | exact .inl rfl | exact .inr (.inl rfl) | exact .inr (.inr rfl))) (x_cons (x_ty (by rfl) b_tuple (by decide +kernel)) x_nil)))))
  (s_one (s_ret x_non))
  s_nil)
  (s_one (s_set (i := 3) sc_follow.nd rfl (by first | exact .inl rfl | exact .inr rfl) (y_call d_entry gd hr (by decide) (by rfl) (x_cons (x_ix (o_ix (hu65 hr)) s_ix (x_ix (o_ix (hu65 hr)) s_ix (x_var 5 rfl (by first | exact .inl rfl | exact .inr (.inl rfl) | exact .inr (.inr rfl))) (x_ix (o_ix (hu65 hr)) s_ix (x_var 3 rfl (by first | exact .inl rfl | exact .inr (.inl rfl) | exact .inr (.inr rfl))) x_int (fun _ _ => rfl)) (fun _ _ => rfl)) x_int (fun _ _ => rfl)) (x_cons (x_var 4 rfl (by first | exact .inl rfl | exact .inr (.inl rfl) | exact .inr (.inr rfl))) x_nil)))))))
  (s_one (s_ret (x_var 3 rfl (by first | exact .inl rfl | exact .inr (.inl rfl) | exact .inr (.inr rfl))))))))) : SXs (cxOf CX0 P w K mg base ["web", "path", "number", "value", "word", "objects", "names"] "follow" (defScope (topS 28)) f cdv A outer s H E).nox T E0 (defBody (topS 28)) m_follow)
theorem sc_object_at : FnScope ["web", "path", "value"] ["web", "path"] (defScope (topS 29)) := ⟨rfl, rfl, rfl, by decide +kernel, rfl, by decide +kernel, by decide +kernel⟩
theorem ok_object_at [Tb] {T : String → Value} {P : Program} {w : World} {K : PySem.W.Frag} {mg : Str → Option Value} {base : Heap} {f : Addr} {fd : FuncData} (F : Fun K "object_at" "object_at" (topS 29) f fd) (b_isinstance : mg "isinstance" = none) (b_tuple : mg "tuple" = none) (d_follow : Df P w K mg base T "follow" 2 ["web", "path"] f_follow) : FnG P w K mg base CX0 3 f fd ["web", "path"] (spM T K 2 f_object_at) :=
  y_def F sc_object_at fun cdv A outer s H E gd hr =>
  ((s_cons (s_set (i := 2) sc_object_at.nd rfl (by first | exact .inl rfl | exact .inr rfl) (y_call d_follow gd hr (by decide) (by rfl) (x_cons (x_var 0 rfl (by first | exact .inl rfl | exact .inr (.inl rfl) | exact .inr (.inr rfl))) (x_cons (x_var 1 rfl (by first | exact .inl rfl | exact .inr (.inl rfl) | exact .inr (.inr rfl))) x_nil))))
  (s_one (s_ret (x_if (t_val (x_callB call_isi n_isi (by rfl) b_isinstance (by decide +kernel) (x_cons (x_var 2 rfl (by first | exact .inl rfl | exact .inr (.inl rfl) | exact .inr (.inr rfl))) (x_cons (x_ty (by rfl) b_tuple (by decide +kernel)) x_nil)))) (x_ix (o_ix (hu65 hr)) s_ix (x_var 2 rfl (by first | exact .inl rfl | exact .inr (.inl rfl) | exact .inr (.inr rfl))) x_int (fun _ _ => rfl)) x_non)))) : SXs (cxOf CX0 P w K mg base ["web", "path", "value"] "object_at" (defScope (topS 29)) f cdv A outer s H E).nox T E0 (defBody (topS 29)) m_object_at)
theorem sc_answer_at : FnScope ["web", "path", "value", "kind", "fields"] ["web", "path"] (defScope (topS 30)) := ⟨rfl, rfl, rfl, by decide +kernel, rfl, by decide +kernel, by decide +kernel⟩
theorem ok_answer_at [Tb] {T : String → Value} {P : Program} {w : World} {K : PySem.W.Frag} {mg : Str → Option Value} {base : Heap} {f : Addr} {fd : FuncData} (F : Fun K "answer_at" "answer_at" (topS 30) f fd) (b_tuple : mg "tuple" = none) (b_isinstance : mg "isinstance" = none) (d_words_of : Df P w K mg base T "words_of" 1 ["pairs"] f_words_of) (d_follow : Df P w K mg base T "follow" 2 ["web", "path"] f_follow) : FnG P w K mg base CX0 3 f fd ["web", "path"] (spM T K 2 f_answer_at) :=
  y_def F sc_answer_at fun cdv A outer s H E gd hr =>
  ((s_cons (s_set (i := 2) sc_answer_at.nd rfl (by first | exact .inl rfl | exact .inr rfl) (y_call d_follow gd hr (by decide) (by rfl) (x_cons (x_var 0 rfl (by first | exact .inl rfl | exact .inr (.inl rfl) | exact .inr (.inr rfl))) (x_cons (x_var 1 rfl (by first | exact .inl rfl | exact .inr (.inl rfl) | exact .inr (.inr rfl))) x_nil))))
  (s_cons (s_if (t_cmp o_is s_is (x_var 2 rfl (by first | exact .inl rfl | exact .inr (.inl rfl) | exact .inr (.inr rfl))) x_non (nomark _))
  (s_one (s_ret x_str))
  s_nil)
  (s_cons (s_if (t_not (t_val (x_callB call_isi n_isi (by rfl) b_isinstance (by decide +kernel) (x_cons (x_var 2 rfl (by first | exact .inl rfl | exact .inr (.inl rfl) | exact .inr (.inr rfl))) (x_cons (x_ty (by rfl) b_tuple (by decide +kernel)) x_nil)))))
  (s_one (s_ret (x_var 2 rfl (by first | exact .inl rfl | exact .inr (.inl rfl) | exact .inr (.inr rfl)))))
  s_nil)
  (s_cons (s_asg (x_ix (o_ix (hu65 hr)) s_ix (x_ix (o_ix (hu65 hr)) s_ix (x_var 0 rfl (by first | exact .inl rfl | exact .inr (.inl rfl) | exact .inr (.inr rfl))) x_int (fun _ _ => rfl)) (x_ix (o_ix (hu65 hr)) s_ix (x_var 2 rfl (by first | exact .inl rfl | exact .inr (.inl rfl) | exact .inr (.inr rfl))) x_int (fun _ _ => rfl)) (fun _ _ => rfl)) (g_many rfl (g_cons (g_one sc_answer_at.nd (i := 3) rfl (by first | exact .inl rfl | exact .inr rfl) (by first | exact .inl rfl | exact .inr rfl)) (g_cons (g_one sc_answer_at.nd (i := 4) rfl (by first | exact .inl rfl | exact .inr rfl) (by first | exact .inl rfl | exact .inr rfl)) g_nil))))
  (s_one (s_ret (x_tup (x_cons (x_var 3 rfl (by first | exact .inl rfl | exact .inr (.inl rfl) | exact .inr (.inr rfl))) (x_cons (x_callTy call_tupN n_tuple (by rfl) b_tuple (by decide +kernel) (x_cons (y_call d_words_of gd hr (by decide) (by rfl) (x_cons (x_var 4 rfl (by first | exact .inl rfl | exact .inr (.inl rfl) | exact .inr (.inr rfl))) x_nil)) x_nil)) x_nil))))))))) : SXs (cxOf CX0 P w K mg base ["web", "path", "value", "kind", "fields"] "answer_at" (defScope (topS 30)) f cdv A outer s H E).nox T E0 (defBody (topS 30)) m_answer_at)
theorem sc_look : FnScope ["web", "path"] ["web", "path"] (defScope (topS 31)) := ⟨rfl, rfl, rfl, by decide +kernel, rfl, by decide +kernel, by decide +kernel⟩
theorem ok_look [Tb] {T : String → Value} {P : Program} {w : World} {K : PySem.W.Frag} {mg : Str → Option Value} {base : Heap} {f : Addr} {fd : FuncData} (F : Fun K "look" "look" (topS 31) f fd) (d_answer_at : Df P w K mg base T "answer_at" 3 ["web", "path"] f_answer_at) (d_check_path : Df P w K mg base T "check_path" 3 ["path"] f_check_path) (d_check_web : Df P w K mg base T "check_web" 6 ["web"] f_check_web) : FnG P w K mg base CX0 7 f fd ["web", "path"] (spM T K 2 f_look) :=
  y_def F sc_look fun cdv A outer s H E gd hr =>
  ((s_cons (s_expr (y_call d_check_web gd hr (by decide) (by rfl) (x_cons (x_var 0 rfl (by first | exact .inl rfl | exact .inr (.inl rfl) | exact .inr (.inr rfl))) x_nil)))
  (s_cons (s_expr (y_call d_check_path gd hr (by decide) (by rfl) (x_cons (x_var 1 rfl (by first | exact .inl rfl | exact .inr (.inl rfl) | exact .inr (.inr rfl))) x_nil)))
  (s_one (s_ret (y_call d_answer_at gd hr (by decide) (by rfl) (x_cons (x_var 0 rfl (by first | exact .inl rfl | exact .inr (.inl rfl) | exact .inr (.inr rfl))) (x_cons (x_var 1 rfl (by first | exact .inl rfl | exact .inr (.inl rfl) | exact .inr (.inr rfl))) x_nil))))))) : SXs (cxOf CX0 P w K mg base ["web", "path"] "look" (defScope (topS 31)) f cdv A outer s H E).nox T E0 (defBody (topS 31)) m_look)
theorem sc_place : FnScope ["web", "path"] ["web", "path"] (defScope (topS 32)) := ⟨rfl, rfl, rfl, by decide +kernel, rfl, by decide +kernel, by decide +kernel⟩
theorem ok_place [Tb] {T : String → Value} {P : Program} {w : World} {K : PySem.W.Frag} {mg : Str → Option Value} {base : Heap} {f : Addr} {fd : FuncData} (F : Fun K "place" "place" (topS 32) f fd) (d_object_at : Df P w K mg base T "object_at" 3 ["web", "path"] f_object_at) (d_check_path : Df P w K mg base T "check_path" 3 ["path"] f_check_path) (d_check_web : Df P w K mg base T "check_web" 6 ["web"] f_check_web) : FnG P w K mg base CX0 7 f fd ["web", "path"] (spM T K 2 f_place) :=
  y_def F sc_place fun cdv A outer s H E gd hr =>
  ((s_cons (s_expr (y_call d_check_web gd hr (by decide) (by rfl) (x_cons (x_var 0 rfl (by first | exact .inl rfl | exact .inr (.inl rfl) | exact .inr (.inr rfl))) x_nil)))
  (s_cons (s_expr (y_call d_check_path gd hr (by decide) (by rfl) (x_cons (x_var 1 rfl (by first | exact .inl rfl | exact .inr (.inl rfl) | exact .inr (.inr rfl))) x_nil)))
  (s_one (s_ret (y_call d_object_at gd hr (by decide) (by rfl) (x_cons (x_var 0 rfl (by first | exact .inl rfl | exact .inr (.inl rfl) | exact .inr (.inr rfl))) (x_cons (x_var 1 rfl (by first | exact .inl rfl | exact .inr (.inl rfl) | exact .inr (.inr rfl))) x_nil))))))) : SXs (cxOf CX0 P w K mg base ["web", "path"] "place" (defScope (topS 32)) f cdv A outer s H E).nox T E0 (defBody (topS 32)) m_place)
theorem sc__law_mixed : FnScope ["cell", "k", "mix"] ["cell", "k"] (defScope (topS 34)) := ⟨rfl, rfl, rfl, by decide +kernel, rfl, by decide +kernel, by decide +kernel⟩
theorem ok__law_mixed [Tb] {T : String → Value} {P : Program} {w : World} {K : PySem.W.Frag} {mg : Str → Option Value} {base : Heap} {f : Addr} {fd : FuncData} (F : Fun K "_law_mixed" "_law_mixed" (topS 34) f fd) (b_int : mg "int" = none) : FnG P w K mg base CX0 1 f fd ["cell", "k"] (spM T K 2 f__law_mixed) :=
  y_def F sc__law_mixed fun cdv A outer s H E gd hr =>
  ((s_cons (s_set (i := 2) sc__law_mixed.nd rfl (by first | exact .inl rfl | exact .inr rfl) (x_bin op_mod s_mod (x_callTy call_int1 n_int (by rfl) b_int (by decide +kernel) (x_cons (x_bin o_add s_add (x_bin o_add s_add (x_bin o_mul s_mul (x_bin op_mod s_mod (x_callTy call_int1 n_int (by rfl) b_int (by decide +kernel) (x_cons (x_var 0 rfl (by first | exact .inl rfl | exact .inr (.inl rfl) | exact .inr (.inr rfl))) x_nil)) x_int) x_int) (x_bin o_mul s_mul (x_var 1 rfl (by first | exact .inl rfl | exact .inr (.inl rfl) | exact .inr (.inr rfl))) x_int)) x_int) x_nil)) x_int))
  (s_cons (s_set (i := 2) sc__law_mixed.nd rfl (by first | exact .inl rfl | exact .inr rfl) (x_bin op_mod s_mod (x_callTy call_int1 n_int (by rfl) b_int (by decide +kernel) (x_cons (x_bin o_mul s_mul (x_var 2 rfl (by first | exact .inl rfl | exact .inr (.inl rfl) | exact .inr (.inr rfl))) (x_var 2 rfl (by first | exact .inl rfl | exact .inr (.inl rfl) | exact .inr (.inr rfl)))) x_nil)) x_int))
  (s_one (s_ret (x_bin op_mod s_mod (x_callTy call_int1 n_int (by rfl) b_int (by decide +kernel) (x_cons (x_bin o_mul s_mul (x_var 2 rfl (by first | exact .inl rfl | exact .inr (.inl rfl) | exact .inr (.inr rfl))) (x_bin o_add s_add (x_var 2 rfl (by first | exact .inl rfl | exact .inr (.inl rfl) | exact .inr (.inr rfl))) x_int)) x_nil)) x_int))))) : SXs (cxOf CX0 P w K mg base ["cell", "k", "mix"] "_law_mixed" (defScope (topS 34)) f cdv A outer s H E).nox T E0 (defBody (topS 34)) m__law_mixed)
theorem sc__law_cell : FnScope ["script", "k", "cell", "found", "j"] ["script", "k"] (defScope (topS 35)) := ⟨rfl, rfl, rfl, by decide +kernel, rfl, by decide +kernel, by decide +kernel⟩
theorem ok__law_cell [Tb] {T : String → Value} {P : Program} {w : World} {K : PySem.W.Frag} {mg : Str → Option Value} {base : Heap} {f : Addr} {fd : FuncData} (F : Fun K "_law_cell" "_law_cell" (topS 35) f fd) (b_range : mg "range" = none) (b_int : mg "int" = none) (b_len : mg "len" = none) (d__law_mixed : Df P w K mg base T "_law_mixed" 1 ["cell", "k"] f__law_mixed) : FnG P w K mg base CX0 2 f fd ["script", "k"] (spM T K 2 f__law_cell) :=
  y_def F sc__law_cell fun cdv A outer s H E gd hr =>
  ((s_cons (s_set (i := 2) sc__law_cell.nd rfl (by first | exact .inl rfl | exact .inr rfl) x_int)
  (s_cons (s_if (t_cmp o_lt s_ord (x_var 1 rfl (by first | exact .inl rfl | exact .inr (.inl rfl) | exact .inr (.inr rfl))) (x_callB call_len n_len (by rfl) b_len (by decide +kernel) (x_cons (x_var 0 rfl (by first | exact .inl rfl | exact .inr (.inl rfl) | exact .inr (.inr rfl))) x_nil)) (nomark _))
  (s_one (s_set (i := 2) sc__law_cell.nd rfl (by first | exact .inl rfl | exact .inr rfl) (x_ix (o_ix (hu65 hr)) s_ix (x_var 0 rfl (by first | exact .inl rfl | exact .inr (.inl rfl) | exact .inr (.inr rfl))) (x_var 1 rfl (by first | exact .inl rfl | exact .inr (.inl rfl) | exact .inr (.inr rfl))) (fun _ _ => rfl))))
  s_nil)
  (s_cons (s_if (t_cmp o_ge s_ord (x_var 2 rfl (by first | exact .inl rfl | exact .inr (.inl rfl) | exact .inr (.inr rfl))) (x_bin op_pow s_pow x_int x_int) (nomark _))
  (s_one (s_ret (x_bin op_mod s_mod (x_callTy call_int1 n_int (by rfl) b_int (by decide +kernel) (x_cons (x_bin op_sub s_sub (x_var 2 rfl (by first | exact .inl rfl | exact .inr (.inl rfl) | exact .inr (.inr rfl))) (x_bin op_pow s_pow x_int x_int)) x_nil)) (x_bin o_mul s_mul (x_bin o_mul s_mul (x_bin o_mul s_mul (x_bin op_pow s_pow x_int x_int) (x_bin op_pow s_pow x_int x_int)) (x_bin op_pow s_pow x_int x_int)) (x_bin op_pow s_pow x_int x_int)))))
  s_nil)
  (s_cons (s_set (i := 3) sc__law_cell.nd rfl (by first | exact .inl rfl | exact .inr rfl) x_int)
  (s_cons (s_for PassesOwn.never rfl (i_range1 (by rfl) b_range x_int) (g_one sc__law_cell.nd (i := 4) rfl (by first | exact .inl rfl | exact .inr rfl) (by first | exact .inl rfl | exact .inr rfl))
  (s_one (s_set (i := 3) sc__law_cell.nd rfl (by first | exact .inl rfl | exact .inr rfl) (x_bin o_add s_add (x_bin o_mul s_mul (x_var 3 rfl (by first | exact .inl rfl | exact .inr (.inl rfl) | exact .inr (.inr rfl))) x_int) (y_call d__law_mixed gd hr (by decide) (by rfl) (x_cons (x_var 2 rfl (by first | exact .inl rfl | exact .inr (.inl rfl) | exact .inr (.inr rfl))) (x_cons (x_bin o_add s_add (x_bin o_add s_add (x_bin o_mul s_mul x_int (x_var 1 rfl (by first | exact .inl rfl | exact .inr (.inl rfl) | exact .inr (.inr rfl)))) (x_bin o_mul s_mul x_int (x_var 4 rfl (by first | exact .inl rfl | exact .inr (.inl rfl) | exact .inr (.inr rfl))))) (x_bin o_mul s_mul (x_var 4 rfl (by first | exact .inl rfl | exact .inr (.inl rfl) | exact .inr (.inr rfl))) (x_var 4 rfl (by first | exact .inl rfl | exact .inr (.inl rfl) | exact .inr (.inr rfl))))) x_nil)))))))
  (s_one (s_ret (x_var 3 rfl (by first | exact .inl rfl | exact .inr (.inl rfl) | exact .inr (.inr rfl)))))))))) : SXs (cxOf CX0 P w K mg base ["script", "k", "cell", "found", "j"] "_law_cell" (defScope (topS 35)) f cdv A outer s H E).nox T E0 (defBody (topS 35)) m__law_cell)
theorem sc__law_take : FnScope ["own", "options", "digit"] ["own", "options"] (defScope (topS 36)) := ⟨rfl, rfl, rfl, by decide +kernel, rfl, by decide +kernel, by decide +kernel⟩
theorem ok__law_take [Tb] {T : String → Value} {P : Program} {w : World} {K : PySem.W.Frag} {mg : Str → Option Value} {base : Heap} {f : Addr} {fd : FuncData} (F : Fun K "_law_take" "_law_take" (topS 36) f fd) (b_int : mg "int" = none) : FnG P w K mg base CX0 1 f fd ["own", "options"] (spM T K 2 f__law_take) :=
  y_def F sc__law_take fun cdv A outer s H E gd hr =>
  ((s_cons (s_set (i := 2) sc__law_take.nd rfl (by first | exact .inl rfl | exact .inr rfl) (x_bin op_mod s_mod (x_callTy call_int1 n_int (by rfl) b_int (by decide +kernel) (x_cons (x_ix (o_ix (hu65 hr)) s_ix (x_var 0 rfl (by first | exact .inl rfl | exact .inr (.inl rfl) | exact .inr (.inr rfl))) x_int (fun _ _ => rfl)) x_nil)) (x_var 1 rfl (by first | exact .inl rfl | exact .inr (.inl rfl) | exact .inr (.inr rfl)))))
  (s_cons (s_setIx (x_bin op_fdivW s_div (x_ix (o_ix (hu65 hr)) s_ix (x_var 0 rfl (by first | exact .inl rfl | exact .inr (.inl rfl) | exact .inr (.inr rfl))) x_int (fun _ _ => rfl)) (x_var 1 rfl (by first | exact .inl rfl | exact .inr (.inl rfl) | exact .inr (.inr rfl)))) (x_var 0 rfl (by first | exact .inl rfl | exact .inr (.inl rfl) | exact .inr (.inr rfl))) x_int)
  (s_one (s_ret (x_var 2 rfl (by first | exact .inl rfl | exact .inr (.inl rfl) | exact .inr (.inr rfl))))))) : SXs (cxOf CX0 P w K mg base ["own", "options", "digit"] "_law_take" (defScope (topS 36)) f cdv A outer s H E).nox T E0 (defBody (topS 36)) m__law_take)
theorem sc__law_fields : FnScope ["own", "size_here", "found", "word", "way"] ["own", "size_here"] (defScope (topS 37)) := ⟨rfl, rfl, rfl, by decide +kernel, rfl, by decide +kernel, by decide +kernel⟩
theorem ok__law_fields [Tb] {T : String → Value} {P : Program} {w : World} {K : PySem.W.Frag} {mg : Str → Option Value} {base : Heap} {f : Addr} {fd : FuncData} (F : Fun K "_law_fields" "_law_fields" (topS 37) f fd) (b_tuple : mg "tuple" = none) (d__law_take : Df P w K mg base T "_law_take" 1 ["own", "options"] f__law_take) : FnG P w K mg base CX0 2 f fd ["own", "size_here"] (spM T K 2 f__law_fields) :=
  y_def F sc__law_fields fun cdv A outer s H E gd hr =>
  ((s_cons (s_set (i := 2) sc__law_fields.nd rfl (by first | exact .inl rfl | exact .inr rfl) (x_lstM x_nil))
  (s_cons (s_for PassesOwn.never rfl (i_any (x_lstF (x_cons x_str (x_cons x_str (x_cons x_str (x_cons x_str x_nil)))))) (g_one sc__law_fields.nd (i := 3) rfl (by first | exact .inl rfl | exact .inr rfl) (by first | exact .inl rfl | exact .inr rfl))
  (s_cons (s_set (i := 4) sc__law_fields.nd rfl (by first | exact .inl rfl | exact .inr rfl) (y_call d__law_take gd hr (by decide) (by rfl) (x_cons (x_var 0 rfl (by first | exact .inl rfl | exact .inr (.inl rfl) | exact .inr (.inr rfl))) (x_cons x_int x_nil))))
  (s_one (s_if (t_cmp o_lt s_ord (x_var 4 rfl (by first | exact .inl rfl | exact .inr (.inl rfl) | exact .inr (.inr rfl))) x_int (nomark _))
  (s_one (s_expr (x_append (x_var 2 rfl (by first | exact .inl rfl | exact .inr (.inl rfl) | exact .inr (.inr rfl))) (x_tup (x_cons (x_var 3 rfl (by first | exact .inl rfl | exact .inr (.inl rfl) | exact .inr (.inr rfl))) (x_cons (x_tup (x_cons (y_call d__law_take gd hr (by decide) (by rfl) (x_cons (x_var 0 rfl (by first | exact .inl rfl | exact .inr (.inl rfl) | exact .inr (.inr rfl))) (x_cons (x_var 1 rfl (by first | exact .inl rfl | exact .inr (.inl rfl) | exact .inr (.inr rfl))) x_nil))) x_nil)) x_nil))) (hp := fun ho ha => pe_bm PySem.F.plainAttrs_list PySem.F.slot_list_append PySem.F.type_list_append mt_append ho ha))))
  (s_one (s_if (t_cmp (o_eq2 (hu64 hr)) s_eq (x_var 4 rfl (by first | exact .inl rfl | exact .inr (.inl rfl) | exact .inr (.inr rfl))) x_int (nomark _))
  (s_one (s_expr (x_append (x_var 2 rfl (by first | exact .inl rfl | exact .inr (.inl rfl) | exact .inr (.inr rfl))) (x_tup (x_cons (x_var 3 rfl (by first | exact .inl rfl | exact .inr (.inl rfl) | exact .inr (.inr rfl))) (x_cons (x_ix (o_ix (hu65 hr)) s_ix (x_lstF (x_cons x_int (x_cons x_int (x_cons (x_bin op_sub s_sub x_int x_int) (x_cons x_int (x_cons x_int x_nil)))))) (y_call d__law_take gd hr (by decide) (by rfl) (x_cons (x_var 0 rfl (by first | exact .inl rfl | exact .inr (.inl rfl) | exact .inr (.inr rfl))) (x_cons x_int x_nil))) (fun _ _ => rfl)) x_nil))) (hp := fun ho ha => pe_bm PySem.F.plainAttrs_list PySem.F.slot_list_append PySem.F.type_list_append mt_append ho ha))))
  s_nil))))))
  (s_one (s_ret (x_callTy call_tupN n_tuple (by rfl) b_tuple (by decide +kernel) (x_cons (x_var 2 rfl (by first | exact .inl rfl | exact .inr (.inl rfl) | exact .inr (.inr rfl))) x_nil)))))) : SXs (cxOf CX0 P w K mg base ["own", "size_here", "found", "word", "way"] "_law_fields" (defScope (topS 37)) f cdv A outer s H E).nox T E0 (defBody (topS 37)) m__law_fields)
theorem sc__law_web : FnScope ["own", "most", "size_here", "things", "k", "words", "word"] ["own", "most"] (defScope (topS 38)) := ⟨rfl, rfl, rfl, by decide +kernel, rfl, by decide +kernel, by decide +kernel⟩
theorem ok__law_web [Tb] {T : String → Value} {P : Program} {w : World} {K : PySem.W.Frag} {mg : Str → Option Value} {base : Heap} {f : Addr} {fd : FuncData} (F : Fun K "_law_web" "_law_web" (topS 38) f fd) (b_tuple : mg "tuple" = none) (b_range : mg "range" = none) (b_len : mg "len" = none) (d__law_take : Df P w K mg base T "_law_take" 1 ["own", "options"] f__law_take) (d__law_fields : Df P w K mg base T "_law_fields" 2 ["own", "size_here"] f__law_fields) : FnG P w K mg base CX0 3 f fd ["own", "most"] (spM T K 2 f__law_web) :=
  y_def F sc__law_web fun cdv A outer s H E gd hr =>
  ((s_cons (s_set (i := 2) sc__law_web.nd rfl (by first | exact .inl rfl | exact .inr rfl) (x_bin o_add s_add x_int (y_call d__law_take gd hr (by decide) (by rfl) (x_cons (x_var 0 rfl (by first | exact .inl rfl | exact .inr (.inl rfl) | exact .inr (.inr rfl))) (x_cons (x_var 1 rfl (by first | exact .inl rfl | exact .inr (.inl rfl) | exact .inr (.inr rfl))) x_nil)))))
  (s_cons (s_set (i := 3) sc__law_web.nd rfl (by first | exact .inl rfl | exact .inr rfl) (x_lstM x_nil))
  (s_cons (s_for PassesOwn.never rfl (i_range1 (by rfl) b_range (x_var 2 rfl (by first | exact .inl rfl | exact .inr (.inl rfl) | exact .inr (.inr rfl)))) (g_one sc__law_web.nd (i := 4) rfl (by first | exact .inl rfl | exact .inr rfl) (by first | exact .inl rfl | exact .inr rfl))
  (s_one (s_if (PW.pt (t_and (t_cmp (o_ne2 (hu64 hr)) s_ne (x_var 3 rfl (by first | exact .inl rfl | exact .inr (.inl rfl) | exact .inr (.inr rfl))) (x_lstF x_nil) (nomark _)) (t_and1 (t_cmp (o_eq2 (hu64 hr)) s_eq (y_call d__law_take gd hr (by decide) (by rfl) (x_cons (x_var 0 rfl (by first | exact .inl rfl | exact .inr (.inl rfl) | exact .inr (.inr rfl))) (x_cons x_int x_nil))) x_int (nomark _)))))
  (s_one (s_expr (x_append (x_var 3 rfl (by first | exact .inl rfl | exact .inr (.inl rfl) | exact .inr (.inr rfl))) (x_ix (o_ix (hu65 hr)) s_ix (x_var 3 rfl (by first | exact .inl rfl | exact .inr (.inl rfl) | exact .inr (.inr rfl))) (y_call d__law_take gd hr (by decide) (by rfl) (x_cons (x_var 0 rfl (by first | exact .inl rfl | exact .inr (.inl rfl) | exact .inr (.inr rfl))) (x_cons (x_callB call_len n_len (by rfl) b_len (by decide +kernel) (x_cons (x_var 3 rfl (by first | exact .inl rfl | exact .inr (.inl rfl) | exact .inr (.inr rfl))) x_nil)) x_nil))) (fun _ _ => rfl)) (hp := fun ho ha => pe_bm PySem.F.plainAttrs_list PySem.F.slot_list_append PySem.F.type_list_append mt_append ho ha))))
  (s_one (s_expr (x_append (x_var 3 rfl (by first | exact .inl rfl | exact .inr (.inl rfl) | exact .inr (.inr rfl))) (x_tup (x_cons (x_ix (o_ix (hu65 hr)) s_ix (x_lstF (x_cons x_str (x_cons x_str (x_cons x_str x_nil)))) (y_call d__law_take gd hr (by decide) (by rfl) (x_cons (x_var 0 rfl (by first | exact .inl rfl | exact .inr (.inl rfl) | exact .inr (.inr rfl))) (x_cons x_int x_nil))) (fun _ _ => rfl)) (x_cons (y_call d__law_fields gd hr (by decide) (by rfl) (x_cons (x_var 0 rfl (by first | exact .inl rfl | exact .inr (.inl rfl) | exact .inr (.inr rfl))) (x_cons (x_var 2 rfl (by first | exact .inl rfl | exact .inr (.inl rfl) | exact .inr (.inr rfl))) x_nil))) x_nil))) (hp := fun ho ha => pe_bm PySem.F.plainAttrs_list PySem.F.slot_list_append PySem.F.type_list_append mt_append ho ha)))))))
  (s_cons (s_set (i := 5) sc__law_web.nd rfl (by first | exact .inl rfl | exact .inr rfl) (x_slice (x_lstF (x_cons x_str (x_cons x_str (x_cons x_str (x_cons x_str (x_cons x_str (x_cons x_str x_nil))))))) x_onone (x_osome (x_bin o_add s_add x_int (y_call d__law_take gd hr (by decide) (by rfl) (x_cons (x_var 0 rfl (by first | exact .inl rfl | exact .inr (.inl rfl) | exact .inr (.inr rfl))) (x_cons x_int x_nil)))))))
  (s_one (s_ret (x_tup (x_cons (x_callTy call_tupN n_tuple (by rfl) b_tuple (by decide +kernel) (x_cons (x_var 3 rfl (by first | exact .inl rfl | exact .inr (.inl rfl) | exact .inr (.inr rfl))) x_nil)) (x_cons (x_callTy call_tupN n_tuple (by rfl) b_tuple (by decide +kernel) (x_cons (x_lc (own := [("word", 6)]) rfl sc__law_web.nd (i_any (x_var 5 rfl (by first | exact .inl rfl | exact .inr (.inl rfl) | exact .inr (.inr rfl)))) (blkOk_by (N := ["own", "most", "size_here", "things", "k", "words", "word"]) (sc := defScope (topS 38)) (by decide +kernel)) (fun _ _ _ _ _ => (g_one sc__law_web.nd (i := 6) rfl (by first | exact .inl rfl | exact .inr rfl) (by first | exact .inl rfl | exact .inr rfl))) (fun _ _ _ _ _ => c_nil) (fun _ _ _ _ _ => (x_tup (x_cons (x_var 6 rfl (by first | exact .inl rfl | exact .inr (.inl rfl) | exact .inr (.inr rfl))) (x_cons (y_call d__law_take gd hr (by decide) (by rfl) (x_cons (x_var 0 rfl (by first | exact .inl rfl | exact .inr (.inl rfl) | exact .inr (.inr rfl))) (x_cons (x_var 2 rfl (by first | exact .inl rfl | exact .inr (.inl rfl) | exact .inr (.inr rfl))) x_nil))) x_nil)))) (by decide)) x_nil)) x_nil))))))))) : SXs (cxOf CX0 P w K mg base ["own", "most", "size_here", "things", "k", "words", "word"] "_law_web" (defScope (topS 38)) f cdv A outer s H E).nox T E0 (defBody (topS 38)) m__law_web)
theorem sc__law_value : FnScope ["sheet", "way", "heads", "found", "word"] ["sheet", "way"] (defScope (topS 39)) := ⟨rfl, rfl, rfl, by decide +kernel, rfl, by decide +kernel, by decide +kernel⟩
theorem ok__law_value [Tb] {T : String → Value} {P : Program} {w : World} {K : PySem.W.Frag} {mg : Str → Option Value} {base : Heap} {f : Addr} {fd : FuncData} (F : Fun K "_law_value" "_law_value" (topS 39) f fd) (b_dict : mg "dict" = none) (b_isinstance : mg "isinstance" = none) (b_tuple : mg "tuple" = none) : FnG P w K mg base CX0 1 f fd ["sheet", "way"] (spM T K 2 f__law_value) :=
  y_def F sc__law_value fun cdv A outer s H E gd hr =>
  ((s_cons (s_set (i := 2) sc__law_value.nd rfl (by first | exact .inl rfl | exact .inr rfl) (x_callTy (call_dict2 rfl) n_dict (by rfl) b_dict (by decide +kernel) (x_cons (x_ix (o_ix (hu65 hr)) s_ix (x_var 0 rfl (by first | exact .inl rfl | exact .inr (.inl rfl) | exact .inr (.inr rfl))) x_int (fun _ _ => rfl)) x_nil)))
  (s_cons (s_if (t_cmp (o_notin (hu65 hr)) s_notin (x_ix (o_ix (hu65 hr)) s_ix (x_var 1 rfl (by first | exact .inl rfl | exact .inr (.inl rfl) | exact .inr (.inr rfl))) x_int (fun _ _ => rfl)) (x_var 2 rfl (by first | exact .inl rfl | exact .inr (.inl rfl) | exact .inr (.inr rfl))) (by rfl))
  (s_one (s_ret x_non))
  s_nil)
  (s_cons (s_set (i := 3) sc__law_value.nd rfl (by first | exact .inl rfl | exact .inr rfl) (x_tup (x_cons (x_ix (o_ix (hu65 hr)) s_ix (x_var 2 rfl (by first | exact .inl rfl | exact .inr (.inl rfl) | exact .inr (.inr rfl))) (x_ix (o_ix (hu65 hr)) s_ix (x_var 1 rfl (by first | exact .inl rfl | exact .inr (.inl rfl) | exact .inr (.inr rfl))) x_int (fun _ _ => rfl)) (fun _ _ => rfl)) x_nil)))
  (s_cons (s_for PassesOwn.never rfl (i_any (x_slice (x_var 1 rfl (by first | exact .inl rfl | exact .inr (.inl rfl) | exact .inr (.inr rfl))) (x_osome x_int) x_onone)) (g_one sc__law_value.nd (i := 4) rfl (by first | exact .inl rfl | exact .inr rfl) (by first | exact .inl rfl | exact .inr rfl))
  (s_cons (s_if (t_not (t_val (x_callB call_isi n_isi (by rfl) b_isinstance (by decide +kernel) (x_cons (x_var 3 rfl (by first | exact .inl rfl | exact .inr (.inl rfl) | exact .inr (.inr rfl))) (x_cons (x_ty (by rfl) b_tuple (by decide +kernel)) x_nil)))))
  (s_one (s_ret x_non))
  s_nil)
  (s_one (s_set (i := 3) sc__law_value.nd rfl (by first | exact .inl rfl | exact .inr rfl) (x_get hr (x_callTy (call_dict2 rfl) n_dict (by rfl) b_dict (by decide +kernel) (x_cons (x_ix (o_ix (hu65 hr)) s_ix (x_ix (o_ix (hu65 hr)) s_ix (x_ix (o_ix (hu65 hr)) s_ix (x_var 0 rfl (by first | exact .inl rfl | exact .inr (.inl rfl) | exact .inr (.inr rfl))) x_int (fun _ _ => rfl)) (x_ix (o_ix (hu65 hr)) s_ix (x_var 3 rfl (by first | exact .inl rfl | exact .inr (.inl rfl) | exact .inr (.inr rfl))) x_int (fun _ _ => rfl)) (fun _ _ => rfl)) x_int (fun _ _ => rfl)) x_nil)) (x_var 4 rfl (by first | exact .inl rfl | exact .inr (.inl rfl) | exact .inr (.inr rfl))) ⟨by rfl, by rfl, by rfl, by rfl⟩)))))
  (s_one (s_ret (x_var 3 rfl (by first | exact .inl rfl | exact .inr (.inl rfl) | exact .inr (.inr rfl))))))))) : SXs (cxOf CX0 P w K mg base ["sheet", "way", "heads", "found", "word"] "_law_value" (defScope (topS 39)) f cdv A outer s H E).nox T E0 (defBody (topS 39)) m__law_value)
theorem sc__law_path : FnScope ["own", "sheet", "most", "heads", "way", "found", "k", "words", "word", "number", "value"] ["own", "sheet", "most"] (defScope (topS 40)) := ⟨rfl, rfl, rfl, by decide +kernel, rfl, by decide +kernel, by decide +kernel⟩
theorem ok__law_path [Tb] {T : String → Value} {P : Program} {w : World} {K : PySem.W.Frag} {mg : Str → Option Value} {base : Heap} {f : Addr} {fd : FuncData} (F : Fun K "_law_path" "_law_path" (topS 40) f fd) (b_tuple : mg "tuple" = none) (b_range : mg "range" = none) (b_len : mg "len" = none) (b_isinstance : mg "isinstance" = none) (d__law_take : Df P w K mg base T "_law_take" 1 ["own", "options"] f__law_take) (d__law_value : Df P w K mg base T "_law_value" 1 ["sheet", "way"] f__law_value) : FnG P w K mg base CX0 2 f fd ["own", "sheet", "most"] (spM T K 3 f__law_path) :=
  y_def F sc__law_path fun cdv A outer s H E gd hr =>
  ((s_cons (s_setLc (own := [("word", 8), ("number", 9)]) (i := 3) rfl sc__law_path.nd rfl rfl (sw_true rfl rfl rfl (by decide +kernel)) (i_any (x_ix (o_ix (hu65 hr)) s_ix (x_var 1 rfl (by first | exact .inl rfl | exact .inr (.inl rfl) | exact .inr (.inr rfl))) x_int (fun _ _ => rfl))) (blkOk_by (N := ["own", "sheet", "most", "heads", "way", "found", "k", "words", "word", "number", "value"]) (sc := defScope (topS 40)) (by decide +kernel)) (fun _ _ _ _ _ => (g_many rfl (g_cons (g_one sc__law_path.nd (i := 8) rfl (by first | exact .inl rfl | exact .inr rfl) (by first | exact .inl rfl | exact .inr rfl)) (g_cons (g_one sc__law_path.nd (i := 9) rfl (by first | exact .inl rfl | exact .inr rfl) (by first | exact .inl rfl | exact .inr rfl)) g_nil)))) (fun _ _ _ _ _ => c_nil) (fun _ _ _ _ _ => (x_var 8 rfl (by first | exact .inl rfl | exact .inr (.inl rfl) | exact .inr (.inr rfl)))) (by decide))
  (s_cons (s_set (i := 4) sc__law_path.nd rfl (by first | exact .inl rfl | exact .inr rfl) (x_lstM (x_cons (x_ix (o_ix (hu65 hr)) s_ix (x_var 3 rfl (by first | exact .inl rfl | exact .inr (.inl rfl) | exact .inr (.inr rfl))) (y_call d__law_take gd hr (by decide) (by rfl) (x_cons (x_var 0 rfl (by first | exact .inl rfl | exact .inr (.inl rfl) | exact .inr (.inr rfl))) (x_cons (x_callB call_len n_len (by rfl) b_len (by decide +kernel) (x_cons (x_var 3 rfl (by first | exact .inl rfl | exact .inr (.inl rfl) | exact .inr (.inr rfl))) x_nil)) x_nil))) (fun _ _ => rfl)) x_nil)))
  (s_cons (s_if (t_cmp (o_eq2 (hu64 hr)) s_eq (y_call d__law_take gd hr (by decide) (by rfl) (x_cons (x_var 0 rfl (by first | exact .inl rfl | exact .inr (.inl rfl) | exact .inr (.inr rfl))) (x_cons x_int x_nil))) x_int (nomark _))
  (s_one (s_set (i := 4) sc__law_path.nd rfl (by first | exact .inl rfl | exact .inr rfl) (x_lstM (x_cons x_str x_nil))))
  s_nil)
  (s_cons (s_set (i := 5) sc__law_path.nd rfl (by first | exact .inl rfl | exact .inr rfl) (y_call d__law_value gd hr (by decide) (by rfl) (x_cons (x_var 1 rfl (by first | exact .inl rfl | exact .inr (.inl rfl) | exact .inr (.inr rfl))) (x_cons (x_callTy call_tupN n_tuple (by rfl) b_tuple (by decide +kernel) (x_cons (x_var 4 rfl (by first | exact .inl rfl | exact .inr (.inl rfl) | exact .inr (.inr rfl))) x_nil)) x_nil))))
  (s_cons (s_for PassesOwn.never rfl (i_range1 (by rfl) b_range (y_call d__law_take gd hr (by decide) (by rfl) (x_cons (x_var 0 rfl (by first | exact .inl rfl | exact .inr (.inl rfl) | exact .inr (.inr rfl))) (x_cons (x_var 2 rfl (by first | exact .inl rfl | exact .inr (.inl rfl) | exact .inr (.inr rfl))) x_nil)))) (g_one sc__law_path.nd (i := 6) rfl (by first | exact .inl rfl | exact .inr rfl) (by first | exact .inl rfl | exact .inr rfl))
  (s_cons (s_set (i := 7) sc__law_path.nd rfl (by first | exact .inl rfl | exact .inr rfl) (x_lstF (x_cons x_str (x_cons x_str (x_cons x_str (x_cons x_str x_nil))))))
  (s_cons (s_if (PW.pt (t_and (t_val (x_callB call_isi n_isi (by rfl) b_isinstance (by decide +kernel) (x_cons (x_var 5 rfl (by first | exact .inl rfl | exact .inr (.inl rfl) | exact .inr (.inr rfl))) (x_cons (x_ty (by rfl) b_tuple (by decide +kernel)) x_nil)))) (t_and (t_cmp (o_ne2 (hu64 hr)) s_ne (x_ix (o_ix (hu65 hr)) s_ix (x_ix (o_ix (hu65 hr)) s_ix (x_ix (o_ix (hu65 hr)) s_ix (x_var 1 rfl (by first | exact .inl rfl | exact .inr (.inl rfl) | exact .inr (.inr rfl))) x_int (fun _ _ => rfl)) (x_ix (o_ix (hu65 hr)) s_ix (x_var 5 rfl (by first | exact .inl rfl | exact .inr (.inl rfl) | exact .inr (.inr rfl))) x_int (fun _ _ => rfl)) (fun _ _ => rfl)) x_int (fun _ _ => rfl)) (x_tup x_nil) (nomark _)) (t_and1 (t_cmp o_gt s_ord (y_call d__law_take gd hr (by decide) (by rfl) (x_cons (x_var 0 rfl (by first | exact .inl rfl | exact .inr (.inl rfl) | exact .inr (.inr rfl))) (x_cons x_int x_nil))) x_int (nomark _))))))
  (s_one (s_setLc (own := [("word", 8), ("value", 10)]) (i := 7) rfl sc__law_path.nd rfl rfl (sw_true rfl rfl rfl (by decide +kernel)) (i_any (x_ix (o_ix (hu65 hr)) s_ix (x_ix (o_ix (hu65 hr)) s_ix (x_ix (o_ix (hu65 hr)) s_ix (x_var 1 rfl (by first | exact .inl rfl | exact .inr (.inl rfl) | exact .inr (.inr rfl))) x_int (fun _ _ => rfl)) (x_ix (o_ix (hu65 hr)) s_ix (x_var 5 rfl (by first | exact .inl rfl | exact .inr (.inl rfl) | exact .inr (.inr rfl))) x_int (fun _ _ => rfl)) (fun _ _ => rfl)) x_int (fun _ _ => rfl))) (blkOk_by (N := ["own", "sheet", "most", "heads", "way", "found", "k", "words", "word", "number", "value"]) (sc := defScope (topS 40)) (by decide +kernel)) (fun _ _ _ _ _ => (g_many rfl (g_cons (g_one sc__law_path.nd (i := 8) rfl (by first | exact .inl rfl | exact .inr rfl) (by first | exact .inl rfl | exact .inr rfl)) (g_cons (g_one sc__law_path.nd (i := 10) rfl (by first | exact .inl rfl | exact .inr rfl) (by first | exact .inl rfl | exact .inr rfl)) g_nil)))) (fun _ _ _ _ _ => c_nil) (fun _ _ _ _ _ => (x_var 8 rfl (by first | exact .inl rfl | exact .inr (.inl rfl) | exact .inr (.inr rfl)))) (by decide)))
  s_nil)
  (s_cons (s_expr (x_append (x_var 4 rfl (by first | exact .inl rfl | exact .inr (.inl rfl) | exact .inr (.inr rfl))) (x_ix (o_ix (hu65 hr)) s_ix (x_var 7 rfl (by first | exact .inl rfl | exact .inr (.inl rfl) | exact .inr (.inr rfl))) (y_call d__law_take gd hr (by decide) (by rfl) (x_cons (x_var 0 rfl (by first | exact .inl rfl | exact .inr (.inl rfl) | exact .inr (.inr rfl))) (x_cons (x_callB call_len n_len (by rfl) b_len (by decide +kernel) (x_cons (x_var 7 rfl (by first | exact .inl rfl | exact .inr (.inl rfl) | exact .inr (.inr rfl))) x_nil)) x_nil))) (fun _ _ => rfl)) (hp := fun ho ha => pe_bm PySem.F.plainAttrs_list PySem.F.slot_list_append PySem.F.type_list_append mt_append ho ha)))
  (s_one (s_set (i := 5) sc__law_path.nd rfl (by first | exact .inl rfl | exact .inr rfl) (y_call d__law_value gd hr (by decide) (by rfl) (x_cons (x_var 1 rfl (by first | exact .inl rfl | exact .inr (.inl rfl) | exact .inr (.inr rfl))) (x_cons (x_callTy call_tupN n_tuple (by rfl) b_tuple (by decide +kernel) (x_cons (x_var 4 rfl (by first | exact .inl rfl | exact .inr (.inl rfl) | exact .inr (.inr rfl))) x_nil)) x_nil)))))))))
  (s_one (s_ret (x_callTy call_tupN n_tuple (by rfl) b_tuple (by decide +kernel) (x_cons (x_var 4 rfl (by first | exact .inl rfl | exact .inr (.inl rfl) | exact .inr (.inr rfl))) x_nil))))))))) : SXs (cxOf CX0 P w K mg base ["own", "sheet", "most", "heads", "way", "found", "k", "words", "word", "number", "value"] "_law_path" (defScope (topS 40)) f cdv A outer s H E).nox T E0 (defBody (topS 40)) m__law_path)
theorem sc__law_good : FnScope ["sheet", "way", "kept", "found", "told", "at", "kind", "fields", "word", "value"] ["sheet", "way"] (defScope (topS 41)) := ⟨rfl, rfl, rfl, by decide +kernel, rfl, by decide +kernel, by decide +kernel⟩
theorem ok__law_good [Tb] {T : String → Value} {P : Program} {w : World} {K : PySem.W.Frag} {mg : Str → Option Value} {base : Heap} {f : Addr} {fd : FuncData} (F : Fun K "_law_good" "_law_good" (topS 41) f fd) (b_tuple : mg "tuple" = none) (b_isinstance : mg "isinstance" = none) (b_bool : mg "bool" = none) (b_str : mg "str" = none) (d_look : Df P w K mg base T "look" 7 ["web", "path"] f_look) (d_place : Df P w K mg base T "place" 7 ["web", "path"] f_place) (d__law_value : Df P w K mg base T "_law_value" 1 ["sheet", "way"] f__law_value) (k_place_path_web : DfK P w K mg base T "place" 7 ["web", "path"] ["path", "web"] [1, 0] f_place) (k_look_path_web : DfK P w K mg base T "look" 7 ["web", "path"] ["path", "web"] [1, 0] f_look) : FnG P w K mg base CX0 8 f fd ["sheet", "way"] (spM T K 2 f__law_good_3) :=
  y_def F sc__law_good fun cdv A outer s H E gd hr =>
  ((s_cons (s_set (i := 2) sc__law_good.nd rfl (by first | exact .inl rfl | exact .inr rfl) (x_strOf gd hr (by rfl) b_str (x_lstF (x_cons (x_var 0 rfl (by first | exact .inl rfl | exact .inr (.inl rfl) | exact .inr (.inr rfl))) (x_cons (x_var 1 rfl (by first | exact .inl rfl | exact .inr (.inl rfl) | exact .inr (.inr rfl))) x_nil)))))
  (s_cons (s_set (i := 3) sc__law_good.nd rfl (by first | exact .inl rfl | exact .inr rfl) (y_call d__law_value gd hr (by decide) (by rfl) (x_cons (x_var 0 rfl (by first | exact .inl rfl | exact .inr (.inl rfl) | exact .inr (.inr rfl))) (x_cons (x_var 1 rfl (by first | exact .inl rfl | exact .inr (.inl rfl) | exact .inr (.inr rfl))) x_nil))))
  (s_cons (s_par (i := 4) (j := 5) rfl sc__law_good.nd rfl rfl (by decide) rfl rfl (x_cons (y_call d_look gd hr (by decide) (by rfl) (x_cons (x_var 0 rfl (by first | exact .inl rfl | exact .inr (.inl rfl) | exact .inr (.inr rfl))) (x_cons (x_var 1 rfl (by first | exact .inl rfl | exact .inr (.inl rfl) | exact .inr (.inr rfl))) x_nil))) (x_cons (y_call d_place gd hr (by decide) (by rfl) (x_cons (x_var 0 rfl (by first | exact .inl rfl | exact .inr (.inl rfl) | exact .inr (.inr rfl))) (x_cons (x_var 1 rfl (by first | exact .inl rfl | exact .inr (.inl rfl) | exact .inr (.inr rfl))) x_nil))) x_nil)) (by rfl))
  (s_cons (s_if (PW.pt (t_or (t_cmp (o_ne2 (hu64 hr)) s_ne (y_callKw k_look_path_web gd hr (by decide) (by rfl) (k_cons (x_var 1 rfl (by first | exact .inl rfl | exact .inr (.inl rfl) | exact .inr (.inr rfl))) (k_cons (x_var 0 rfl (by first | exact .inl rfl | exact .inr (.inl rfl) | exact .inr (.inr rfl))) k_nil))) (x_var 4 rfl (by first | exact .inl rfl | exact .inr (.inl rfl) | exact .inr (.inr rfl))) (nomark _)) (t_or (t_cmp (o_ne2 (hu64 hr)) s_ne (y_callKw k_place_path_web gd hr (by decide) (by rfl) (k_cons (x_var 1 rfl (by first | exact .inl rfl | exact .inr (.inl rfl) | exact .inr (.inr rfl))) (k_cons (x_var 0 rfl (by first | exact .inl rfl | exact .inr (.inl rfl) | exact .inr (.inr rfl))) k_nil))) (x_var 5 rfl (by first | exact .inl rfl | exact .inr (.inl rfl) | exact .inr (.inr rfl))) (nomark _)) (t_or1 (t_cmp (o_ne2 (hu64 hr)) s_ne (x_strOf gd hr (by rfl) b_str (x_lstF (x_cons (x_var 0 rfl (by first | exact .inl rfl | exact .inr (.inl rfl) | exact .inr (.inr rfl))) (x_cons (x_var 1 rfl (by first | exact .inl rfl | exact .inr (.inl rfl) | exact .inr (.inr rfl))) x_nil)))) (x_var 2 rfl (by first | exact .inl rfl | exact .inr (.inl rfl) | exact .inr (.inr rfl))) (nomark _))))))
  (s_one (s_ret x_bl))
  s_nil)
  (s_cons (s_if (PW.pt (t_or (t_val (x_callB call_isi n_isi (by rfl) b_isinstance (by decide +kernel) (x_cons (x_var 5 rfl (by first | exact .inl rfl | exact .inr (.inl rfl) | exact .inr (.inr rfl))) (x_cons (x_ty (by rfl) b_bool (by decide +kernel)) x_nil)))) (t_or1 (t_val (x_callB call_isi n_isi (by rfl) b_isinstance (by decide +kernel) (x_cons (x_var 4 rfl (by first | exact .inl rfl | exact .inr (.inl rfl) | exact .inr (.inr rfl))) (x_cons (x_ty (by rfl) b_bool (by decide +kernel)) x_nil)))))))
  (s_one (s_ret x_bl))
  s_nil)
  (s_cons (s_if (t_cmp o_is s_is (x_var 3 rfl (by first | exact .inl rfl | exact .inr (.inl rfl) | exact .inr (.inr rfl))) x_non (nomark _))
  (s_one (s_ret (x_and (x_cmp (o_eq2 (hu64 hr)) s_eq (x_var 4 rfl (by first | exact .inl rfl | exact .inr (.inl rfl) | exact .inr (.inr rfl))) x_str (nomark _)) (x_one (x_cmp o_is s_is (x_var 5 rfl (by first | exact .inl rfl | exact .inr (.inl rfl) | exact .inr (.inr rfl))) x_non (nomark _))))))
  s_nil)
  (s_cons (s_if (t_not (t_val (x_callB call_isi n_isi (by rfl) b_isinstance (by decide +kernel) (x_cons (x_var 3 rfl (by first | exact .inl rfl | exact .inr (.inl rfl) | exact .inr (.inr rfl))) (x_cons (x_ty (by rfl) b_tuple (by decide +kernel)) x_nil)))))
  (s_one (s_ret (x_and (x_cmp (o_eq2 (hu64 hr)) s_eq (x_var 4 rfl (by first | exact .inl rfl | exact .inr (.inl rfl) | exact .inr (.inr rfl))) (x_var 3 rfl (by first | exact .inl rfl | exact .inr (.inl rfl) | exact .inr (.inr rfl))) (nomark _)) (x_one (x_cmp o_is s_is (x_var 5 rfl (by first | exact .inl rfl | exact .inr (.inl rfl) | exact .inr (.inr rfl))) x_non (nomark _))))))
  s_nil)
  (s_cons (s_asg (x_ix (o_ix (hu65 hr)) s_ix (x_ix (o_ix (hu65 hr)) s_ix (x_var 0 rfl (by first | exact .inl rfl | exact .inr (.inl rfl) | exact .inr (.inr rfl))) x_int (fun _ _ => rfl)) (x_ix (o_ix (hu65 hr)) s_ix (x_var 3 rfl (by first | exact .inl rfl | exact .inr (.inl rfl) | exact .inr (.inr rfl))) x_int (fun _ _ => rfl)) (fun _ _ => rfl)) (g_many rfl (g_cons (g_one sc__law_good.nd (i := 6) rfl (by first | exact .inl rfl | exact .inr rfl) (by first | exact .inl rfl | exact .inr rfl)) (g_cons (g_one sc__law_good.nd (i := 7) rfl (by first | exact .inl rfl | exact .inr rfl) (by first | exact .inl rfl | exact .inr rfl)) g_nil))))
  (s_one (s_ret (x_and (x_cmp (o_eq2 (hu64 hr)) s_eq (x_var 4 rfl (by first | exact .inl rfl | exact .inr (.inl rfl) | exact .inr (.inr rfl))) (x_tup (x_cons (x_var 6 rfl (by first | exact .inl rfl | exact .inr (.inl rfl) | exact .inr (.inr rfl))) (x_cons (x_callTy call_tupN n_tuple (by rfl) b_tuple (by decide +kernel) (x_cons (x_lc (own := [("word", 8), ("value", 9)]) rfl sc__law_good.nd (i_any (x_var 7 rfl (by first | exact .inl rfl | exact .inr (.inl rfl) | exact .inr (.inr rfl)))) (blkOk_by (N := ["sheet", "way", "kept", "found", "told", "at", "kind", "fields", "word", "value"]) (sc := defScope (topS 41)) (by decide +kernel)) (fun _ _ _ _ _ => (g_many rfl (g_cons (g_one sc__law_good.nd (i := 8) rfl (by first | exact .inl rfl | exact .inr rfl) (by first | exact .inl rfl | exact .inr rfl)) (g_cons (g_one sc__law_good.nd (i := 9) rfl (by first | exact .inl rfl | exact .inr rfl) (by first | exact .inl rfl | exact .inr rfl)) g_nil)))) (fun _ _ _ _ _ => c_nil) (fun _ _ _ _ _ => (x_var 8 rfl (by first | exact .inl rfl | exact .inr (.inl rfl) | exact .inr (.inr rfl)))) (by decide)) x_nil)) x_nil))) (nomark _)) (x_one (x_cmp (o_eq2 (hu64 hr)) s_eq (x_var 5 rfl (by first | exact .inl rfl | exact .inr (.inl rfl) | exact .inr (.inr rfl))) (x_ix (o_ix (hu65 hr)) s_ix (x_var 3 rfl (by first | exact .inl rfl | exact .inr (.inl rfl) | exact .inr (.inr rfl))) x_int (fun _ _ => rfl)) (nomark _)))))))))))))) : SXs (cxOf CX0 P w K mg base ["sheet", "way", "kept", "found", "told", "at", "kind", "fields", "word", "value"] "_law_good" (defScope (topS 41)) f cdv A outer s H E).nox T E0 (defBody (topS 41)) m__law_good_3)
theorem sc_law : FnScope ["script", "turn", "ring", "some", "way", "own", "k", "sheet", "j"] ["script"] (defScope (topS 42)) := ⟨rfl, rfl, rfl, by decide +kernel, rfl, by decide +kernel, by decide +kernel⟩
theorem ok_law [Tb] {T : String → Value} {P : Program} {w : World} {K : PySem.W.Frag} {mg : Str → Option Value} {base : Heap} {f : Addr} {fd : FuncData} (F : Fun K "law" "law" (topS 42) f fd) (b_range : mg "range" = none) (b_max : mg "max" = none) (b_min : mg "min" = none) (b_len : mg "len" = none) (b_int : mg "int" = none) (d_place : Df P w K mg base T "place" 7 ["web", "path"] f_place) (d_look : Df P w K mg base T "look" 7 ["web", "path"] f_look) (d__law_good : Df P w K mg base T "_law_good" 8 ["sheet", "way"] f__law_good_3) (d__law_path : Df P w K mg base T "_law_path" 2 ["own", "sheet", "most"] f__law_path) (d__law_web : Df P w K mg base T "_law_web" 3 ["own", "most"] f__law_web) (d__law_cell : Df P w K mg base T "_law_cell" 2 ["script", "k"] f__law_cell) : FnG P w K mg base CX0 9 f fd ["script"] (spM T K 1 f_law_3) :=
  y_def F sc_law fun cdv A outer s H E gd hr =>
  ((s_cons (s_for PassesOwn.never rfl (i_range1 (by rfl) b_range (x_callB (call_max2 rfl) n_max2 (by rfl) b_max (by decide +kernel) (x_cons (x_callB (call_min2 rfl) n_min2 (by rfl) b_min (by decide +kernel) (x_cons (x_callB call_len n_len (by rfl) b_len (by decide +kernel) (x_cons (x_var 0 rfl (by first | exact .inl rfl | exact .inr (.inl rfl) | exact .inr (.inr rfl))) x_nil)) (x_cons x_int x_nil))) (x_cons x_int x_nil)))) (g_one sc_law.nd (i := 1) rfl (by first | exact .inl rfl | exact .inr rfl) (by first | exact .inl rfl | exact .inr rfl))
  (s_cons (s_set (i := 5) sc_law.nd rfl (by first | exact .inl rfl | exact .inr rfl) (x_lstM (x_cons (y_call d__law_cell gd hr (by decide) (by rfl) (x_cons (x_var 0 rfl (by first | exact .inl rfl | exact .inr (.inl rfl) | exact .inr (.inr rfl))) (x_cons (x_var 1 rfl (by first | exact .inl rfl | exact .inr (.inl rfl) | exact .inr (.inr rfl))) x_nil))) x_nil)))
  (s_one (s_for PassesOwn.never rfl (i_range1 (by rfl) b_range x_int) (g_one sc_law.nd (i := 6) rfl (by first | exact .inl rfl | exact .inr rfl) (by first | exact .inl rfl | exact .inr rfl))
  (s_cons (s_set (i := 7) sc_law.nd rfl (by first | exact .inl rfl | exact .inr rfl) (y_call d__law_web gd hr (by decide) (by rfl) (x_cons (x_var 5 rfl (by first | exact .inl rfl | exact .inr (.inl rfl) | exact .inr (.inr rfl))) (x_cons (x_ix (o_ix (hu65 hr)) s_ix (x_lstF (x_cons x_int (x_cons x_int x_nil))) (x_var 6 rfl (by first | exact .inl rfl | exact .inr (.inl rfl) | exact .inr (.inr rfl))) (fun _ _ => rfl)) x_nil))))
  (s_one (s_for PassesOwn.never rfl (i_range1 (by rfl) b_range x_int) (g_one sc_law.nd (i := 8) rfl (by first | exact .inl rfl | exact .inr rfl) (by first | exact .inl rfl | exact .inr rfl))
  (s_cons (s_set (i := 4) sc_law.nd rfl (by first | exact .inl rfl | exact .inr rfl) (y_call d__law_path gd hr (by decide) (by rfl) (x_cons (x_var 5 rfl (by first | exact .inl rfl | exact .inr (.inl rfl) | exact .inr (.inr rfl))) (x_cons (x_var 7 rfl (by first | exact .inl rfl | exact .inr (.inl rfl) | exact .inr (.inr rfl))) (x_cons (x_ix (o_ix (hu65 hr)) s_ix (x_lstF (x_cons x_int (x_cons x_int x_nil))) (x_bin op_mod s_mod (x_callTy call_int1 n_int (by rfl) b_int (by decide +kernel) (x_cons (x_var 8 rfl (by first | exact .inl rfl | exact .inr (.inl rfl) | exact .inr (.inr rfl))) x_nil)) x_int) (fun _ _ => rfl)) x_nil)))))
  (s_one (s_for PassesOwn.never rfl (i_any (x_lstF (x_cons (x_var 4 rfl (by first | exact .inl rfl | exact .inr (.inl rfl) | exact .inr (.inr rfl))) (x_cons (x_bin o_add s_add (x_var 4 rfl (by first | exact .inl rfl | exact .inr (.inl rfl) | exact .inr (.inr rfl))) (x_tup (x_cons x_str x_nil))) (x_cons (x_slice (x_var 4 rfl (by first | exact .inl rfl | exact .inr (.inl rfl) | exact .inr (.inr rfl))) (x_osome (x_un un_neg s_neg x_int)) x_onone) x_nil))))) (g_one sc_law.nd (i := 3) rfl (by first | exact .inl rfl | exact .inr rfl) (by first | exact .inl rfl | exact .inr rfl))
  (s_one (s_if (t_not (t_val (y_call d__law_good gd hr (by decide) (by rfl) (x_cons (x_var 7 rfl (by first | exact .inl rfl | exact .inr (.inl rfl) | exact .inr (.inr rfl))) (x_cons (x_var 3 rfl (by first | exact .inl rfl | exact .inr (.inl rfl) | exact .inr (.inr rfl))) x_nil)))))
  (s_one (s_ret x_bl))
  s_nil))))))))))))
  (s_cons (s_set (i := 2) sc_law.nd rfl (by first | exact .inl rfl | exact .inr rfl) (x_tup (x_cons (x_tup (x_cons (x_tup (x_cons x_str (x_cons (x_tup (x_cons (x_tup (x_cons x_str (x_cons (x_tup (x_cons x_int x_nil)) x_nil))) (x_cons (x_tup (x_cons x_str (x_cons x_int x_nil))) x_nil))) x_nil))) (x_cons (x_tup (x_cons x_str (x_cons (x_tup (x_cons (x_tup (x_cons x_str (x_cons (x_tup (x_cons x_int x_nil)) x_nil))) x_nil)) x_nil))) x_nil))) (x_cons (x_tup (x_cons (x_tup (x_cons x_str (x_cons x_int x_nil))) (x_cons (x_tup (x_cons x_str (x_cons x_int x_nil))) x_nil))) x_nil))))
  (s_cons (s_set (i := 3) sc_law.nd rfl (by first | exact .inl rfl | exact .inr rfl) (x_lstF (x_cons (x_bin o_add s_add (x_tup (x_cons x_str x_nil)) (x_bin o_mul s_mul (x_tup (x_cons x_str x_nil)) x_int)) (x_cons (x_bin o_add s_add (x_bin o_add s_add (x_tup (x_cons x_str x_nil)) (x_bin o_mul s_mul (x_tup (x_cons x_str x_nil)) x_int)) (x_tup (x_cons x_str x_nil))) (x_cons (x_bin o_add s_add (x_bin o_add s_add (x_tup (x_cons x_str x_nil)) (x_bin o_mul s_mul (x_tup (x_cons x_str x_nil)) x_int)) (x_tup (x_cons x_str x_nil))) x_nil)))))
  (s_cons (s_for PassesOwn.never rfl (i_any (x_bin o_add s_add (x_var 3 rfl (by first | exact .inl rfl | exact .inr (.inl rfl) | exact .inr (.inr rfl))) (x_lstF (x_cons (x_tup (x_cons x_str (x_cons x_str (x_cons x_str x_nil)))) (x_cons (x_tup (x_cons x_str x_nil)) x_nil))))) (g_one sc_law.nd (i := 4) rfl (by first | exact .inl rfl | exact .inr rfl) (by first | exact .inl rfl | exact .inr rfl))
  (s_one (s_if (t_not (t_val (y_call d__law_good gd hr (by decide) (by rfl) (x_cons (x_var 2 rfl (by first | exact .inl rfl | exact .inr (.inl rfl) | exact .inr (.inr rfl))) (x_cons (x_var 4 rfl (by first | exact .inl rfl | exact .inr (.inl rfl) | exact .inr (.inr rfl))) x_nil)))))
  (s_one (s_ret x_bl))
  s_nil)))
  (s_cons (s_if (t_cmp (o_ne2 (hu64 hr)) s_ne (y_call d_look gd hr (by decide) (by rfl) (x_cons (x_var 2 rfl (by first | exact .inl rfl | exact .inr (.inl rfl) | exact .inr (.inr rfl))) (x_cons (x_bin o_add s_add (x_bin o_add s_add (x_tup (x_cons x_str x_nil)) (x_bin o_mul s_mul (x_tup (x_cons x_str x_nil)) x_int)) (x_tup (x_cons x_str x_nil))) x_nil))) x_int (nomark _))
  (s_one (s_ret x_bl))
  s_nil)
  (s_one (s_ret (x_and (x_cmp o_is s_is (y_call d_place gd hr (by decide) (by rfl) (x_cons (x_var 2 rfl (by first | exact .inl rfl | exact .inr (.inl rfl) | exact .inr (.inr rfl))) (x_cons (x_tup (x_cons x_str (x_cons x_str x_nil))) x_nil))) x_non (nomark _)) (x_one (x_cmp (o_eq2 (hu64 hr)) s_eq (y_call d_place gd hr (by decide) (by rfl) (x_cons (x_var 2 rfl (by first | exact .inl rfl | exact .inr (.inl rfl) | exact .inr (.inr rfl))) (x_cons (x_tup (x_cons x_str (x_cons x_str x_nil))) x_nil))) x_int (nomark _))))))))))) : SXs (cxOf CX0 P w K mg base ["script", "turn", "ring", "some", "way", "own", "k", "sheet", "j"] "law" (defScope (topS 42)) f cdv A outer s H E).nox T E0 (defBody (topS 42)) m_law_3)
theorem all_mk {T : String → Value} {l : PySem.W.OpenLaw} {w : World} {K : PySem.W.Frag} {h : Heap} {mg : Str → Option Value} {fa : Addr} (X : K.In h) (G : h.Ns mainGlobals mg) (hfa : mg "law" = some (.ref fa))
    {f13 : Addr} {od13 an13 : Option Addr} {sl13 : Array (Option Value)} {oc13 kV13 dc13 pm13 cd13 ct13 : Value}
    {f14 : Addr} {od14 an14 : Option Addr} {sl14 : Array (Option Value)} {oc14 kV14 dc14 pm14 cd14 ct14 : Value}
    {f15 : Addr} {od15 an15 : Option Addr} {sl15 : Array (Option Value)} {oc15 kV15 dc15 pm15 cd15 ct15 : Value}
    {f16 : Addr} {od16 an16 : Option Addr} {sl16 : Array (Option Value)} {oc16 kV16 dc16 pm16 cd16 ct16 : Value}
    {f17 : Addr} {od17 an17 : Option Addr} {sl17 : Array (Option Value)} {oc17 kV17 dc17 pm17 cd17 ct17 : Value}
    {f18 : Addr} {od18 an18 : Option Addr} {sl18 : Array (Option Value)} {oc18 kV18 dc18 pm18 cd18 ct18 : Value}
    {f19 : Addr} {od19 an19 : Option Addr} {sl19 : Array (Option Value)} {oc19 kV19 dc19 pm19 cd19 ct19 : Value}
    {f20 : Addr} {od20 an20 : Option Addr} {sl20 : Array (Option Value)} {oc20 kV20 dc20 pm20 cd20 ct20 : Value}
    {f21 : Addr} {od21 an21 : Option Addr} {sl21 : Array (Option Value)} {oc21 kV21 dc21 pm21 cd21 ct21 : Value}
    {f23 : Addr} {od23 an23 : Option Addr} {sl23 : Array (Option Value)} {oc23 kV23 dc23 pm23 cd23 ct23 : Value}
    {f24 : Addr} {od24 an24 : Option Addr} {sl24 : Array (Option Value)} {oc24 kV24 dc24 pm24 cd24 ct24 : Value}
    {f25 : Addr} {od25 an25 : Option Addr} {sl25 : Array (Option Value)} {oc25 kV25 dc25 pm25 cd25 ct25 : Value}
    {f26 : Addr} {od26 an26 : Option Addr} {sl26 : Array (Option Value)} {oc26 kV26 dc26 pm26 cd26 ct26 : Value}
    {f27 : Addr} {od27 an27 : Option Addr} {sl27 : Array (Option Value)} {oc27 kV27 dc27 pm27 cd27 ct27 : Value}
    {f28 : Addr} {od28 an28 : Option Addr} {sl28 : Array (Option Value)} {oc28 kV28 dc28 pm28 cd28 ct28 : Value}
    {f29 : Addr} {od29 an29 : Option Addr} {sl29 : Array (Option Value)} {oc29 kV29 dc29 pm29 cd29 ct29 : Value}
    {f30 : Addr} {od30 an30 : Option Addr} {sl30 : Array (Option Value)} {oc30 kV30 dc30 pm30 cd30 ct30 : Value}
    {f31 : Addr} {od31 an31 : Option Addr} {sl31 : Array (Option Value)} {oc31 kV31 dc31 pm31 cd31 ct31 : Value}
    {f32 : Addr} {od32 an32 : Option Addr} {sl32 : Array (Option Value)} {oc32 kV32 dc32 pm32 cd32 ct32 : Value}
    {f34 : Addr} {od34 an34 : Option Addr} {sl34 : Array (Option Value)} {oc34 kV34 dc34 pm34 cd34 ct34 : Value}
    {f35 : Addr} {od35 an35 : Option Addr} {sl35 : Array (Option Value)} {oc35 kV35 dc35 pm35 cd35 ct35 : Value}
    {f36 : Addr} {od36 an36 : Option Addr} {sl36 : Array (Option Value)} {oc36 kV36 dc36 pm36 cd36 ct36 : Value}
    {f37 : Addr} {od37 an37 : Option Addr} {sl37 : Array (Option Value)} {oc37 kV37 dc37 pm37 cd37 ct37 : Value}
    {f38 : Addr} {od38 an38 : Option Addr} {sl38 : Array (Option Value)} {oc38 kV38 dc38 pm38 cd38 ct38 : Value}
    {f39 : Addr} {od39 an39 : Option Addr} {sl39 : Array (Option Value)} {oc39 kV39 dc39 pm39 cd39 ct39 : Value}
    {f40 : Addr} {od40 an40 : Option Addr} {sl40 : Array (Option Value)} {oc40 kV40 dc40 pm40 cd40 ct40 : Value}
    {f41 : Addr} {od41 an41 : Option Addr} {sl41 : Array (Option Value)} {oc41 kV41 dc41 pm41 cd41 ct41 : Value}
    {f42 : Addr} {od42 an42 : Option Addr} {sl42 : Array (Option Value)} {oc42 kV42 dc42 pm42 cd42 ct42 : Value}
    {ka5 : Addr} {ks5 : Array (Option Value)} {kn5 : Nat} {t5_0 t5_1 : Tok}
    {t6 : Tok}
    {t7 : Tok}
    {t8 : Tok}
    {t9 : Tok}
    {t10 : Tok}
    {t11 : Tok}
    {t12 : Tok}
    (a13 : PySem.W.nsIn K mainGlobals "is_int" = some (some (.ref f13)))
    (l13 : K.lookup f13 = some ⟨oc13, od13, .func (PySem.W.fnOf "is_int" "is_int" (defArgs (topS 13)) (defBody (topS 13)) (defScope (topS 13)) .none kV13 dc13 pm13 an13 cd13 ct13), sl13⟩)
    (c13 : PySem.W.codeIn K cd13 "is_int" = true) (k13 : PySem.W.keepIn K (.ref f13) = true)
    (a14 : PySem.W.nsIn K mainGlobals "is_word" = some (some (.ref f14)))
    (l14 : K.lookup f14 = some ⟨oc14, od14, .func (PySem.W.fnOf "is_word" "is_word" (defArgs (topS 14)) (defBody (topS 14)) (defScope (topS 14)) .none kV14 dc14 pm14 an14 cd14 ct14), sl14⟩)
    (c14 : PySem.W.codeIn K cd14 "is_word" = true) (k14 : PySem.W.keepIn K (.ref f14) = true)
    (a15 : PySem.W.nsIn K mainGlobals "words_of" = some (some (.ref f15)))
    (l15 : K.lookup f15 = some ⟨oc15, od15, .func (PySem.W.fnOf "words_of" "words_of" (defArgs (topS 15)) (defBody (topS 15)) (defScope (topS 15)) .none kV15 dc15 pm15 an15 cd15 ct15), sl15⟩)
    (c15 : PySem.W.codeIn K cd15 "words_of" = true) (k15 : PySem.W.keepIn K (.ref f15) = true)
    (a16 : PySem.W.nsIn K mainGlobals "is_tuple" = some (some (.ref f16)))
    (l16 : K.lookup f16 = some ⟨oc16, od16, .func (PySem.W.fnOf "is_tuple" "is_tuple" (defArgs (topS 16)) (defBody (topS 16)) (defScope (topS 16)) .none kV16 dc16 pm16 an16 cd16 ct16), sl16⟩)
    (c16 : PySem.W.codeIn K cd16 "is_tuple" = true) (k16 : PySem.W.keepIn K (.ref f16) = true)
    (a17 : PySem.W.nsIn K mainGlobals "is_number" = some (some (.ref f17)))
    (l17 : K.lookup f17 = some ⟨oc17, od17, .func (PySem.W.fnOf "is_number" "is_number" (defArgs (topS 17)) (defBody (topS 17)) (defScope (topS 17)) .none kV17 dc17 pm17 an17 cd17 ct17), sl17⟩)
    (c17 : PySem.W.codeIn K cd17 "is_number" = true) (k17 : PySem.W.keepIn K (.ref f17) = true)
    (a18 : PySem.W.nsIn K mainGlobals "is_field_value" = some (some (.ref f18)))
    (l18 : K.lookup f18 = some ⟨oc18, od18, .func (PySem.W.fnOf "is_field_value" "is_field_value" (defArgs (topS 18)) (defBody (topS 18)) (defScope (topS 18)) .none kV18 dc18 pm18 an18 cd18 ct18), sl18⟩)
    (c18 : PySem.W.codeIn K cd18 "is_field_value" = true) (k18 : PySem.W.keepIn K (.ref f18) = true)
    (a19 : PySem.W.nsIn K mainGlobals "is_table" = some (some (.ref f19)))
    (l19 : K.lookup f19 = some ⟨oc19, od19, .func (PySem.W.fnOf "is_table" "is_table" (defArgs (topS 19)) (defBody (topS 19)) (defScope (topS 19)) .none kV19 dc19 pm19 an19 cd19 ct19), sl19⟩)
    (c19 : PySem.W.codeIn K cd19 "is_table" = true) (k19 : PySem.W.keepIn K (.ref f19) = true)
    (a20 : PySem.W.nsIn K mainGlobals "is_object" = some (some (.ref f20)))
    (l20 : K.lookup f20 = some ⟨oc20, od20, .func (PySem.W.fnOf "is_object" "is_object" (defArgs (topS 20)) (defBody (topS 20)) (defScope (topS 20)) .none kV20 dc20 pm20 an20 cd20 ct20), sl20⟩)
    (c20 : PySem.W.codeIn K cd20 "is_object" = true) (k20 : PySem.W.keepIn K (.ref f20) = true)
    (a21 : PySem.W.nsIn K mainGlobals "is_names" = some (some (.ref f21)))
    (l21 : K.lookup f21 = some ⟨oc21, od21, .func (PySem.W.fnOf "is_names" "is_names" (defArgs (topS 21)) (defBody (topS 21)) (defScope (topS 21)) .none kV21 dc21 pm21 an21 cd21 ct21), sl21⟩)
    (c21 : PySem.W.codeIn K cd21 "is_names" = true) (k21 : PySem.W.keepIn K (.ref f21) = true)
    (a23 : PySem.W.nsIn K mainGlobals "is_web" = some (some (.ref f23)))
    (l23 : K.lookup f23 = some ⟨oc23, od23, .func (PySem.W.fnOf "is_web" "is_web" (defArgs (topS 23)) (defBody (topS 23)) (defScope (topS 23)) .none kV23 dc23 pm23 an23 cd23 ct23), sl23⟩)
    (c23 : PySem.W.codeIn K cd23 "is_web" = true) (k23 : PySem.W.keepIn K (.ref f23) = true)
    (a24 : PySem.W.nsIn K mainGlobals "is_path" = some (some (.ref f24)))
    (l24 : K.lookup f24 = some ⟨oc24, od24, .func (PySem.W.fnOf "is_path" "is_path" (defArgs (topS 24)) (defBody (topS 24)) (defScope (topS 24)) .none kV24 dc24 pm24 an24 cd24 ct24), sl24⟩)
    (c24 : PySem.W.codeIn K cd24 "is_path" = true) (k24 : PySem.W.keepIn K (.ref f24) = true)
    (a25 : PySem.W.nsIn K mainGlobals "check_web" = some (some (.ref f25)))
    (l25 : K.lookup f25 = some ⟨oc25, od25, .func (PySem.W.fnOf "check_web" "check_web" (defArgs (topS 25)) (defBody (topS 25)) (defScope (topS 25)) .none kV25 dc25 pm25 an25 cd25 ct25), sl25⟩)
    (c25 : PySem.W.codeIn K cd25 "check_web" = true) (k25 : PySem.W.keepIn K (.ref f25) = true)
    (a26 : PySem.W.nsIn K mainGlobals "check_path" = some (some (.ref f26)))
    (l26 : K.lookup f26 = some ⟨oc26, od26, .func (PySem.W.fnOf "check_path" "check_path" (defArgs (topS 26)) (defBody (topS 26)) (defScope (topS 26)) .none kV26 dc26 pm26 an26 cd26 ct26), sl26⟩)
    (c26 : PySem.W.codeIn K cd26 "check_path" = true) (k26 : PySem.W.keepIn K (.ref f26) = true)
    (a27 : PySem.W.nsIn K mainGlobals "entry" = some (some (.ref f27)))
    (l27 : K.lookup f27 = some ⟨oc27, od27, .func (PySem.W.fnOf "entry" "entry" (defArgs (topS 27)) (defBody (topS 27)) (defScope (topS 27)) .none kV27 dc27 pm27 an27 cd27 ct27), sl27⟩)
    (c27 : PySem.W.codeIn K cd27 "entry" = true) (k27 : PySem.W.keepIn K (.ref f27) = true)
    (a28 : PySem.W.nsIn K mainGlobals "follow" = some (some (.ref f28)))
    (l28 : K.lookup f28 = some ⟨oc28, od28, .func (PySem.W.fnOf "follow" "follow" (defArgs (topS 28)) (defBody (topS 28)) (defScope (topS 28)) .none kV28 dc28 pm28 an28 cd28 ct28), sl28⟩)
    (c28 : PySem.W.codeIn K cd28 "follow" = true) (k28 : PySem.W.keepIn K (.ref f28) = true)
    (a29 : PySem.W.nsIn K mainGlobals "object_at" = some (some (.ref f29)))
    (l29 : K.lookup f29 = some ⟨oc29, od29, .func (PySem.W.fnOf "object_at" "object_at" (defArgs (topS 29)) (defBody (topS 29)) (defScope (topS 29)) .none kV29 dc29 pm29 an29 cd29 ct29), sl29⟩)
    (c29 : PySem.W.codeIn K cd29 "object_at" = true) (k29 : PySem.W.keepIn K (.ref f29) = true)
    (a30 : PySem.W.nsIn K mainGlobals "answer_at" = some (some (.ref f30)))
    (l30 : K.lookup f30 = some ⟨oc30, od30, .func (PySem.W.fnOf "answer_at" "answer_at" (defArgs (topS 30)) (defBody (topS 30)) (defScope (topS 30)) .none kV30 dc30 pm30 an30 cd30 ct30), sl30⟩)
    (c30 : PySem.W.codeIn K cd30 "answer_at" = true) (k30 : PySem.W.keepIn K (.ref f30) = true)
    (a31 : PySem.W.nsIn K mainGlobals "look" = some (some (.ref f31)))
    (l31 : K.lookup f31 = some ⟨oc31, od31, .func (PySem.W.fnOf "look" "look" (defArgs (topS 31)) (defBody (topS 31)) (defScope (topS 31)) .none kV31 dc31 pm31 an31 cd31 ct31), sl31⟩)
    (c31 : PySem.W.codeIn K cd31 "look" = true) (k31 : PySem.W.keepIn K (.ref f31) = true)
    (a32 : PySem.W.nsIn K mainGlobals "place" = some (some (.ref f32)))
    (l32 : K.lookup f32 = some ⟨oc32, od32, .func (PySem.W.fnOf "place" "place" (defArgs (topS 32)) (defBody (topS 32)) (defScope (topS 32)) .none kV32 dc32 pm32 an32 cd32 ct32), sl32⟩)
    (c32 : PySem.W.codeIn K cd32 "place" = true) (k32 : PySem.W.keepIn K (.ref f32) = true)
    (a34 : PySem.W.nsIn K mainGlobals "_law_mixed" = some (some (.ref f34)))
    (l34 : K.lookup f34 = some ⟨oc34, od34, .func (PySem.W.fnOf "_law_mixed" "_law_mixed" (defArgs (topS 34)) (defBody (topS 34)) (defScope (topS 34)) .none kV34 dc34 pm34 an34 cd34 ct34), sl34⟩)
    (c34 : PySem.W.codeIn K cd34 "_law_mixed" = true) (k34 : PySem.W.keepIn K (.ref f34) = true)
    (a35 : PySem.W.nsIn K mainGlobals "_law_cell" = some (some (.ref f35)))
    (l35 : K.lookup f35 = some ⟨oc35, od35, .func (PySem.W.fnOf "_law_cell" "_law_cell" (defArgs (topS 35)) (defBody (topS 35)) (defScope (topS 35)) .none kV35 dc35 pm35 an35 cd35 ct35), sl35⟩)
    (c35 : PySem.W.codeIn K cd35 "_law_cell" = true) (k35 : PySem.W.keepIn K (.ref f35) = true)
    (a36 : PySem.W.nsIn K mainGlobals "_law_take" = some (some (.ref f36)))
    (l36 : K.lookup f36 = some ⟨oc36, od36, .func (PySem.W.fnOf "_law_take" "_law_take" (defArgs (topS 36)) (defBody (topS 36)) (defScope (topS 36)) .none kV36 dc36 pm36 an36 cd36 ct36), sl36⟩)
    (c36 : PySem.W.codeIn K cd36 "_law_take" = true) (k36 : PySem.W.keepIn K (.ref f36) = true)
    (a37 : PySem.W.nsIn K mainGlobals "_law_fields" = some (some (.ref f37)))
    (l37 : K.lookup f37 = some ⟨oc37, od37, .func (PySem.W.fnOf "_law_fields" "_law_fields" (defArgs (topS 37)) (defBody (topS 37)) (defScope (topS 37)) .none kV37 dc37 pm37 an37 cd37 ct37), sl37⟩)
    (c37 : PySem.W.codeIn K cd37 "_law_fields" = true) (k37 : PySem.W.keepIn K (.ref f37) = true)
    (a38 : PySem.W.nsIn K mainGlobals "_law_web" = some (some (.ref f38)))
    (l38 : K.lookup f38 = some ⟨oc38, od38, .func (PySem.W.fnOf "_law_web" "_law_web" (defArgs (topS 38)) (defBody (topS 38)) (defScope (topS 38)) .none kV38 dc38 pm38 an38 cd38 ct38), sl38⟩)
    (c38 : PySem.W.codeIn K cd38 "_law_web" = true) (k38 : PySem.W.keepIn K (.ref f38) = true)
    (a39 : PySem.W.nsIn K mainGlobals "_law_value" = some (some (.ref f39)))
    (l39 : K.lookup f39 = some ⟨oc39, od39, .func (PySem.W.fnOf "_law_value" "_law_value" (defArgs (topS 39)) (defBody (topS 39)) (defScope (topS 39)) .none kV39 dc39 pm39 an39 cd39 ct39), sl39⟩)
    (c39 : PySem.W.codeIn K cd39 "_law_value" = true) (k39 : PySem.W.keepIn K (.ref f39) = true)
    (a40 : PySem.W.nsIn K mainGlobals "_law_path" = some (some (.ref f40)))
    (l40 : K.lookup f40 = some ⟨oc40, od40, .func (PySem.W.fnOf "_law_path" "_law_path" (defArgs (topS 40)) (defBody (topS 40)) (defScope (topS 40)) .none kV40 dc40 pm40 an40 cd40 ct40), sl40⟩)
    (c40 : PySem.W.codeIn K cd40 "_law_path" = true) (k40 : PySem.W.keepIn K (.ref f40) = true)
    (a41 : PySem.W.nsIn K mainGlobals "_law_good" = some (some (.ref f41)))
    (l41 : K.lookup f41 = some ⟨oc41, od41, .func (PySem.W.fnOf "_law_good" "_law_good" (defArgs (topS 41)) (defBody (topS 41)) (defScope (topS 41)) .none kV41 dc41 pm41 an41 cd41 ct41), sl41⟩)
    (c41 : PySem.W.codeIn K cd41 "_law_good" = true) (k41 : PySem.W.keepIn K (.ref f41) = true)
    (a42 : PySem.W.nsIn K mainGlobals "law" = some (some (.ref f42)))
    (l42 : K.lookup f42 = some ⟨oc42, od42, .func (PySem.W.fnOf "law" "law" (defArgs (topS 42)) (defBody (topS 42)) (defScope (topS 42)) .none kV42 dc42 pm42 an42 cd42 ct42), sl42⟩)
    (c42 : PySem.W.codeIn K cd42 "law" = true) (k42 : PySem.W.keepIn K (.ref f42) = true)
    (z_all : PySem.W.nsIn K mainGlobals "all" = some none)
    (z_bool : PySem.W.nsIn K mainGlobals "bool" = some none)
    (z_dict : PySem.W.nsIn K mainGlobals "dict" = some none)
    (z_int : PySem.W.nsIn K mainGlobals "int" = some none)
    (z_isinstance : PySem.W.nsIn K mainGlobals "isinstance" = some none)
    (z_len : PySem.W.nsIn K mainGlobals "len" = some none)
    (z_max : PySem.W.nsIn K mainGlobals "max" = some none)
    (z_min : PySem.W.nsIn K mainGlobals "min" = some none)
    (z_range : PySem.W.nsIn K mainGlobals "range" = some none)
    (z_set : PySem.W.nsIn K mainGlobals "set" = some none)
    (z_sorted : PySem.W.nsIn K mainGlobals "sorted" = some none)
    (z_str : PySem.W.nsIn K mainGlobals "str" = some none)
    (z_tuple : PySem.W.nsIn K mainGlobals "tuple" = some none)
    (n5 : PySem.W.nsIn K mainGlobals "KINDS" = some (some (.ref ka5))) (o5 : K.lookup ka5 = some ⟨.type "tuple", none, .seq #[.str "open" t5_0, .str "frozen" t5_1] kn5, ks5⟩)
    (n6 : PySem.W.nsIn K mainGlobals "LEAST_INT" = some (some (Value.int (-999999999) t6)))
    (n7 : PySem.W.nsIn K mainGlobals "MOST_INT" = some (some (Value.int 999999999 t7)))
    (n8 : PySem.W.nsIn K mainGlobals "MOST_LETTERS" = some (some (Value.int 8 t8)))
    (n9 : PySem.W.nsIn K mainGlobals "MOST_FIELDS" = some (some (Value.int 4 t9)))
    (n10 : PySem.W.nsIn K mainGlobals "MOST_NAMES" = some (some (Value.int 6 t10)))
    (n11 : PySem.W.nsIn K mainGlobals "MOST_OBJECTS" = some (some (Value.int 30 t11)))
    (n12 : PySem.W.nsIn K mainGlobals "MOST_WORDS" = some (some (Value.int 64 t12))) :
    ∃ fd : FuncData, (∀ (s : Shared) (v : Value), BindsTo s fd ⟨[v], []⟩ [("script", v)]) ∧ ∀ base : Heap, K.In base → base.Ns mainGlobals mg → FnG l.prog w K mg base CX0 9 fa fd ["script"] (@spM tb0 T K 1 f_law_3) := by
  have e := hfa.symm.trans (PySem.W.mg_of X G a42)
  cases e
  have F13 := fun_mk (st := topS 13) l13 c13 k13
  have F14 := fun_mk (st := topS 14) l14 c14 k14
  have F15 := fun_mk (st := topS 15) l15 c15 k15
  have F16 := fun_mk (st := topS 16) l16 c16 k16
  have F17 := fun_mk (st := topS 17) l17 c17 k17
  have F18 := fun_mk (st := topS 18) l18 c18 k18
  have F19 := fun_mk (st := topS 19) l19 c19 k19
  have F20 := fun_mk (st := topS 20) l20 c20 k20
  have F21 := fun_mk (st := topS 21) l21 c21 k21
  have F23 := fun_mk (st := topS 23) l23 c23 k23
  have F24 := fun_mk (st := topS 24) l24 c24 k24
  have F25 := fun_mk (st := topS 25) l25 c25 k25
  have F26 := fun_mk (st := topS 26) l26 c26 k26
  have F27 := fun_mk (st := topS 27) l27 c27 k27
  have F28 := fun_mk (st := topS 28) l28 c28 k28
  have F29 := fun_mk (st := topS 29) l29 c29 k29
  have F30 := fun_mk (st := topS 30) l30 c30 k30
  have F31 := fun_mk (st := topS 31) l31 c31 k31
  have F32 := fun_mk (st := topS 32) l32 c32 k32
  have F34 := fun_mk (st := topS 34) l34 c34 k34
  have F35 := fun_mk (st := topS 35) l35 c35 k35
  have F36 := fun_mk (st := topS 36) l36 c36 k36
  have F37 := fun_mk (st := topS 37) l37 c37 k37
  have F38 := fun_mk (st := topS 38) l38 c38 k38
  have F39 := fun_mk (st := topS 39) l39 c39 k39
  have F40 := fun_mk (st := topS 40) l40 c40 k40
  have F41 := fun_mk (st := topS 41) l41 c41 k41
  have F42 := fun_mk (st := topS 42) l42 c42 k42
  refine ⟨PySem.W.fnOf "law" "law" (defArgs (topS 42)) (defBody (topS 42)) (defScope (topS 42)) .none kV42 dc42 pm42 an42 cd42 ct42, fun s v => .of_eq rfl, fun base hK hG => ?_⟩
  letI : Tb := tb0
  have b_all := PySem.W.mg_none_of X G z_all
  have b_bool := PySem.W.mg_none_of X G z_bool
  have b_dict := PySem.W.mg_none_of X G z_dict
  have b_int := PySem.W.mg_none_of X G z_int
  have b_isinstance := PySem.W.mg_none_of X G z_isinstance
  have b_len := PySem.W.mg_none_of X G z_len
  have b_max := PySem.W.mg_none_of X G z_max
  have b_min := PySem.W.mg_none_of X G z_min
  have b_range := PySem.W.mg_none_of X G z_range
  have b_set := PySem.W.mg_none_of X G z_set
  have b_sorted := PySem.W.mg_none_of X G z_sorted
  have b_str := PySem.W.mg_none_of X G z_str
  have b_tuple := PySem.W.mg_none_of X G z_tuple
  have c_KINDS : Co l.prog w K mg base "KINDS" v_KINDS := ⟨_, .ref ka5, PySem.W.mg_of X G n5, rfl, fun g H => .tup (vs := [.str "open", .str "frozen"]) (.inr ⟨_, _, _, rfl, o5, rfl, rfl, show 2 ≤ sizeLine by decide, (.cons ⟨_, rfl⟩ (.cons ⟨_, rfl⟩ .nil))⟩) (.cons (.str _) (.cons (.str _) .nil))⟩
  have c_LEAST_INT : Co l.prog w K mg base "LEAST_INT" v_LEAST_INT := ⟨_, (V.int (-999999999)), PySem.W.mg_of X G n6, ⟨_, rfl⟩, fun g H => .int _⟩
  have c_MOST_INT : Co l.prog w K mg base "MOST_INT" v_MOST_INT := ⟨_, (V.int 999999999), PySem.W.mg_of X G n7, ⟨_, rfl⟩, fun g H => .int _⟩
  have c_MOST_LETTERS : Co l.prog w K mg base "MOST_LETTERS" v_MOST_LETTERS := ⟨_, (V.int 8), PySem.W.mg_of X G n8, ⟨_, rfl⟩, fun g H => .int _⟩
  have c_MOST_FIELDS : Co l.prog w K mg base "MOST_FIELDS" v_MOST_FIELDS := ⟨_, (V.int 4), PySem.W.mg_of X G n9, ⟨_, rfl⟩, fun g H => .int _⟩
  have c_MOST_NAMES : Co l.prog w K mg base "MOST_NAMES" v_MOST_NAMES := ⟨_, (V.int 6), PySem.W.mg_of X G n10, ⟨_, rfl⟩, fun g H => .int _⟩
  have c_MOST_OBJECTS : Co l.prog w K mg base "MOST_OBJECTS" v_MOST_OBJECTS := ⟨_, (V.int 30), PySem.W.mg_of X G n11, ⟨_, rfl⟩, fun g H => .int _⟩
  have c_MOST_WORDS : Co l.prog w K mg base "MOST_WORDS" v_MOST_WORDS := ⟨_, (V.int 64), PySem.W.mg_of X G n12, ⟨_, rfl⟩, fun g H => .int _⟩
  have g_is_int : FnG l.prog w K mg base CX0 1 f13 _ ["value"] (spM T K 1 f_is_int) := ok_is_int F13 c_LEAST_INT c_MOST_INT b_isinstance b_bool b_int
  have d_is_int : Df l.prog w K mg base T "is_int" 1 ["value"] f_is_int := ⟨_, _, g_is_int, PySem.W.mg_of X G a13, k13, F13.binds fun _ _ _ _ _ _ us hl => match us, hl with | [_], _ => rfl⟩
  have g_is_word : FnG l.prog w K mg base CX0 1 f14 _ ["value"] (spM T K 1 f_is_word) := ok_is_word F14 c_MOST_LETTERS b_all b_len b_isinstance b_str
  have d_is_word : Df l.prog w K mg base T "is_word" 1 ["value"] f_is_word := ⟨_, _, g_is_word, PySem.W.mg_of X G a14, k14, F14.binds fun _ _ _ _ _ _ us hl => match us, hl with | [_], _ => rfl⟩
  have g_words_of : FnG l.prog w K mg base CX0 1 f15 _ ["pairs"] (spM T K 1 f_words_of) := ok_words_of F15 
  have d_words_of : Df l.prog w K mg base T "words_of" 1 ["pairs"] f_words_of := ⟨_, _, g_words_of, PySem.W.mg_of X G a15, k15, F15.binds fun _ _ _ _ _ _ us hl => match us, hl with | [_], _ => rfl⟩
  have g_is_tuple : FnG l.prog w K mg base CX0 1 f16 _ ["value", "least", "most"] (spM T K 3 f_is_tuple) := ok_is_tuple F16 b_len b_isinstance b_tuple
  have d_is_tuple : Df l.prog w K mg base T "is_tuple" 1 ["value", "least", "most"] f_is_tuple := ⟨_, _, g_is_tuple, PySem.W.mg_of X G a16, k16, F16.binds fun _ _ _ _ _ _ us hl => match us, hl with | [_, _, _], _ => rfl⟩
  have g_entry : FnG l.prog w K mg base CX0 1 f27 _ ["pairs", "word"] (spM T K 2 f_entry) := ok_entry F27 
  have d_entry : Df l.prog w K mg base T "entry" 1 ["pairs", "word"] f_entry := ⟨_, _, g_entry, PySem.W.mg_of X G a27, k27, F27.binds fun _ _ _ _ _ _ us hl => match us, hl with | [_, _], _ => rfl⟩
  have g__law_mixed : FnG l.prog w K mg base CX0 1 f34 _ ["cell", "k"] (spM T K 2 f__law_mixed) := ok__law_mixed F34 b_int
  have d__law_mixed : Df l.prog w K mg base T "_law_mixed" 1 ["cell", "k"] f__law_mixed := ⟨_, _, g__law_mixed, PySem.W.mg_of X G a34, k34, F34.binds fun _ _ _ _ _ _ us hl => match us, hl with | [_, _], _ => rfl⟩
  have g__law_take : FnG l.prog w K mg base CX0 1 f36 _ ["own", "options"] (spM T K 2 f__law_take) := ok__law_take F36 b_int
  have d__law_take : Df l.prog w K mg base T "_law_take" 1 ["own", "options"] f__law_take := ⟨_, _, g__law_take, PySem.W.mg_of X G a36, k36, F36.binds fun _ _ _ _ _ _ us hl => match us, hl with | [_, _], _ => rfl⟩
  have g__law_value : FnG l.prog w K mg base CX0 1 f39 _ ["sheet", "way"] (spM T K 2 f__law_value) := ok__law_value F39 b_dict b_isinstance b_tuple
  have d__law_value : Df l.prog w K mg base T "_law_value" 1 ["sheet", "way"] f__law_value := ⟨_, _, g__law_value, PySem.W.mg_of X G a39, k39, F39.binds fun _ _ _ _ _ _ us hl => match us, hl with | [_, _], _ => rfl⟩
  have g_is_number : FnG l.prog w K mg base CX0 2 f17 _ ["value", "many"] (spM T K 2 f_is_number) := ok_is_number F17 d_is_int
  have d_is_number : Df l.prog w K mg base T "is_number" 2 ["value", "many"] f_is_number := ⟨_, _, g_is_number, PySem.W.mg_of X G a17, k17, F17.binds fun _ _ _ _ _ _ us hl => match us, hl with | [_, _], _ => rfl⟩
  have g_is_table : FnG l.prog w K mg base CX0 2 f19 _ ["value", "least", "most"] (spM T K 3 f_is_table) := ok_is_table F19 b_sorted b_set b_all d_words_of d_is_word d_is_tuple
  have d_is_table : Df l.prog w K mg base T "is_table" 2 ["value", "least", "most"] f_is_table := ⟨_, _, g_is_table, PySem.W.mg_of X G a19, k19, F19.binds fun _ _ _ _ _ _ us hl => match us, hl with | [_, _, _], _ => rfl⟩
  have g_is_path : FnG l.prog w K mg base CX0 2 f24 _ ["value"] (spM T K 1 f_is_path) := ok_is_path F24 c_MOST_WORDS b_all d_is_word d_is_tuple
  have d_is_path : Df l.prog w K mg base T "is_path" 2 ["value"] f_is_path := ⟨_, _, g_is_path, PySem.W.mg_of X G a24, k24, F24.binds fun _ _ _ _ _ _ us hl => match us, hl with | [_], _ => rfl⟩
  have g_follow : FnG l.prog w K mg base CX0 2 f28 _ ["web", "path"] (spM T K 2 f_follow) := ok_follow F28 b_isinstance b_tuple d_entry
  have d_follow : Df l.prog w K mg base T "follow" 2 ["web", "path"] f_follow := ⟨_, _, g_follow, PySem.W.mg_of X G a28, k28, F28.binds fun _ _ _ _ _ _ us hl => match us, hl with | [_, _], _ => rfl⟩
  have g__law_cell : FnG l.prog w K mg base CX0 2 f35 _ ["script", "k"] (spM T K 2 f__law_cell) := ok__law_cell F35 b_range b_int b_len d__law_mixed
  have d__law_cell : Df l.prog w K mg base T "_law_cell" 2 ["script", "k"] f__law_cell := ⟨_, _, g__law_cell, PySem.W.mg_of X G a35, k35, F35.binds fun _ _ _ _ _ _ us hl => match us, hl with | [_, _], _ => rfl⟩
  have g__law_fields : FnG l.prog w K mg base CX0 2 f37 _ ["own", "size_here"] (spM T K 2 f__law_fields) := ok__law_fields F37 b_tuple d__law_take
  have d__law_fields : Df l.prog w K mg base T "_law_fields" 2 ["own", "size_here"] f__law_fields := ⟨_, _, g__law_fields, PySem.W.mg_of X G a37, k37, F37.binds fun _ _ _ _ _ _ us hl => match us, hl with | [_, _], _ => rfl⟩
  have g__law_path : FnG l.prog w K mg base CX0 2 f40 _ ["own", "sheet", "most"] (spM T K 3 f__law_path) := ok__law_path F40 b_tuple b_range b_len b_isinstance d__law_take d__law_value
  have d__law_path : Df l.prog w K mg base T "_law_path" 2 ["own", "sheet", "most"] f__law_path := ⟨_, _, g__law_path, PySem.W.mg_of X G a40, k40, F40.binds fun _ _ _ _ _ _ us hl => match us, hl with | [_, _, _], _ => rfl⟩
  have g_is_field_value : FnG l.prog w K mg base CX0 3 f18 _ ["value", "many"] (spM T K 2 f_is_field_value) := ok_is_field_value F18 d_is_number d_is_tuple d_is_int
  have d_is_field_value : Df l.prog w K mg base T "is_field_value" 3 ["value", "many"] f_is_field_value := ⟨_, _, g_is_field_value, PySem.W.mg_of X G a18, k18, F18.binds fun _ _ _ _ _ _ us hl => match us, hl with | [_, _], _ => rfl⟩
  have g_is_names : FnG l.prog w K mg base CX0 3 f21 _ ["value", "many"] (spM T K 2 f_is_names) := ok_is_names F21 c_MOST_NAMES b_all d_is_number d_is_table
  have d_is_names : Df l.prog w K mg base T "is_names" 3 ["value", "many"] f_is_names := ⟨_, _, g_is_names, PySem.W.mg_of X G a21, k21, F21.binds fun _ _ _ _ _ _ us hl => match us, hl with | [_, _], _ => rfl⟩
  have g_check_path : FnG l.prog w K mg base CX0 3 f26 _ ["path"] (spM T K 1 f_check_path) := ok_check_path F26 d_is_path
  have d_check_path : Df l.prog w K mg base T "check_path" 3 ["path"] f_check_path := ⟨_, _, g_check_path, PySem.W.mg_of X G a26, k26, F26.binds fun _ _ _ _ _ _ us hl => match us, hl with | [_], _ => rfl⟩
  have g_object_at : FnG l.prog w K mg base CX0 3 f29 _ ["web", "path"] (spM T K 2 f_object_at) := ok_object_at F29 b_isinstance b_tuple d_follow
  have d_object_at : Df l.prog w K mg base T "object_at" 3 ["web", "path"] f_object_at := ⟨_, _, g_object_at, PySem.W.mg_of X G a29, k29, F29.binds fun _ _ _ _ _ _ us hl => match us, hl with | [_, _], _ => rfl⟩
  have g_answer_at : FnG l.prog w K mg base CX0 3 f30 _ ["web", "path"] (spM T K 2 f_answer_at) := ok_answer_at F30 b_tuple b_isinstance d_words_of d_follow
  have d_answer_at : Df l.prog w K mg base T "answer_at" 3 ["web", "path"] f_answer_at := ⟨_, _, g_answer_at, PySem.W.mg_of X G a30, k30, F30.binds fun _ _ _ _ _ _ us hl => match us, hl with | [_, _], _ => rfl⟩
  have g__law_web : FnG l.prog w K mg base CX0 3 f38 _ ["own", "most"] (spM T K 2 f__law_web) := ok__law_web F38 b_tuple b_range b_len d__law_take d__law_fields
  have d__law_web : Df l.prog w K mg base T "_law_web" 3 ["own", "most"] f__law_web := ⟨_, _, g__law_web, PySem.W.mg_of X G a38, k38, F38.binds fun _ _ _ _ _ _ us hl => match us, hl with | [_, _], _ => rfl⟩
  have g_is_object : FnG l.prog w K mg base CX0 4 f20 _ ["value", "many"] (spM T K 2 f_is_object) := ok_is_object F20 c_MOST_FIELDS c_KINDS b_all d_is_field_value d_is_table d_is_tuple
  have d_is_object : Df l.prog w K mg base T "is_object" 4 ["value", "many"] f_is_object := ⟨_, _, g_is_object, PySem.W.mg_of X G a20, k20, F20.binds fun _ _ _ _ _ _ us hl => match us, hl with | [_, _], _ => rfl⟩
  have g_is_web : FnG l.prog w K mg base CX0 5 f23 _ ["value"] (spM T K 1 f_is_web) := ok_is_web F23 c_MOST_OBJECTS b_all b_len d_is_object d_is_names d_is_tuple
  have d_is_web : Df l.prog w K mg base T "is_web" 5 ["value"] f_is_web := ⟨_, _, g_is_web, PySem.W.mg_of X G a23, k23, F23.binds fun _ _ _ _ _ _ us hl => match us, hl with | [_], _ => rfl⟩
  have g_check_web : FnG l.prog w K mg base CX0 6 f25 _ ["web"] (spM T K 1 f_check_web) := ok_check_web F25 d_is_web
  have d_check_web : Df l.prog w K mg base T "check_web" 6 ["web"] f_check_web := ⟨_, _, g_check_web, PySem.W.mg_of X G a25, k25, F25.binds fun _ _ _ _ _ _ us hl => match us, hl with | [_], _ => rfl⟩
  have g_look : FnG l.prog w K mg base CX0 7 f31 _ ["web", "path"] (spM T K 2 f_look) := ok_look F31 d_answer_at d_check_path d_check_web
  have d_look : Df l.prog w K mg base T "look" 7 ["web", "path"] f_look := ⟨_, _, g_look, PySem.W.mg_of X G a31, k31, F31.binds fun _ _ _ _ _ _ us hl => match us, hl with | [_, _], _ => rfl⟩
  have k_look_path_web : DfK l.prog w K mg base T "look" 7 ["web", "path"] ["path", "web"] [1, 0] f_look := ⟨_, _, g_look, PySem.W.mg_of X G a31, k31, F31.kb fun _ _ _ _ _ _ us hl => match us, hl with | [_, _], _ => rfl⟩
  have g_place : FnG l.prog w K mg base CX0 7 f32 _ ["web", "path"] (spM T K 2 f_place) := ok_place F32 d_object_at d_check_path d_check_web
  have d_place : Df l.prog w K mg base T "place" 7 ["web", "path"] f_place := ⟨_, _, g_place, PySem.W.mg_of X G a32, k32, F32.binds fun _ _ _ _ _ _ us hl => match us, hl with | [_, _], _ => rfl⟩
  have k_place_path_web : DfK l.prog w K mg base T "place" 7 ["web", "path"] ["path", "web"] [1, 0] f_place := ⟨_, _, g_place, PySem.W.mg_of X G a32, k32, F32.kb fun _ _ _ _ _ _ us hl => match us, hl with | [_, _], _ => rfl⟩
  have g__law_good : FnG l.prog w K mg base CX0 8 f41 _ ["sheet", "way"] (spM T K 2 f__law_good_3) := ok__law_good F41 b_tuple b_isinstance b_bool b_str d_look d_place d__law_value k_place_path_web k_look_path_web
  have d__law_good : Df l.prog w K mg base T "_law_good" 8 ["sheet", "way"] f__law_good_3 := ⟨_, _, g__law_good, PySem.W.mg_of X G a41, k41, F41.binds fun _ _ _ _ _ _ us hl => match us, hl with | [_, _], _ => rfl⟩
  exact ok_law F42 b_range b_max b_min b_len b_int d_place d_look d__law_good d__law_path d__law_web d__law_cell
end K03

set_option Elab.async false
set_option linter.all false
set_option maxRecDepth 100000
set_option maxHeartbeats 400000
namespace K01
open PySem PySem.Spec PyProof.Rows L2 Sim Pg

def isIntP : PV → Bool
  | .int i => decide (-999999999 ≤ i) && decide (i ≤ 999999999)
  | _ => false
theorem f_is_int_ok {x : PV} (h : flat x = true) (st : Sto) : f_is_int [x] st = .ok (.bl (isIntP x)) st := by
  unfold f_is_int m_is_int
  cases x <;> first | (cases h; done) | simp_arith! [isi_int h, isi_bool h, v_LEAST_INT, v_MOST_INT, isIntP]
def isTupP (lo hi : Int) : PV → Bool
  | .tup xs => decide (lo ≤ xs.length) && decide ((xs.length : Int) ≤ hi)
  | _ => false
theorem f_is_tuple_ok {x : PV} (h : flat x = true) (lo hi : Int) (st : Sto) : f_is_tuple [x, .int lo, .int hi] st = .ok (.bl (isTupP lo hi x)) st := by
  unfold f_is_tuple m_is_tuple
  cases x <;> first | (cases h; done) | simp_arith! [isi_tuple h, isTupP, len_ok_t]
def numP (many : Int) : PV → Bool
  | .int i => (decide (-999999999 ≤ i) && decide (i ≤ 999999999)) && (decide (0 ≤ i) && decide (i < many))
  | _ => false
theorem f_is_number_ok {x : PV} (h : flat x = true) (n : Int) (st : Sto) : f_is_number [x, .int n] st = .ok (.bl (numP n x)) st := by
  unfold f_is_number m_is_number
  cases x <;> first | (cases h; done) | simp_arith! [f_is_int_ok h, isIntP, numP]
def valP (n : Int) (x : PV) : Bool := isIntP x || match x with
  | .tup [y] => numP n y
  | _ => false
theorem f_is_field_value_ok {x : PV} (h : dt x = true) (n : Int) (st : Sto) : f_is_field_value [x, .int n] st = .ok (.bl (valP n x)) st := by
  have hf := dt_flat h
  unfold f_is_field_value m_is_field_value
  cases x with
  | tup xs =>
    obtain ⟨_, hx⟩ := dt_tup h
    match xs, hx with
    | [], _ =>
      have e : isTupP 1 1 (.tup []) = false := rfl
      simp_arith! [f_is_int_ok hf, f_is_tuple_ok hf, isIntP, e, valP]
    | [y], hx =>
      have hy := dt_flat (hx y (List.mem_cons_self ..))
      have e : isTupP 1 1 (.tup [y]) = true := rfl
      simp_arith! [f_is_int_ok hf, f_is_tuple_ok hf, isIntP, e, valP, ix0, f_is_number_ok hy]
    | y :: z :: r, _ =>
      have e : isTupP 1 1 (.tup (y :: z :: r)) = false := by simp only [isTupP, List.length_cons]; rw [Bool.and_eq_false_iff]; right; rw [decide_eq_false_iff_not]; omega
      simp_arith! [f_is_int_ok hf, f_is_tuple_ok hf, isIntP, e, valP]
  | _ => first | (cases hf; done) | simp_arith! [f_is_int_ok hf, f_is_tuple_ok hf, isIntP, isTupP, valP]
/-- a letter's number -/
def low26 (c : Nat) : Bool := decide (97 ≤ c) && decide (c ≤ 122)
def wordP : PV → Bool
  | .str z => (decide (1 ≤ (z.length : Int)) && decide ((z.length : Int) ≤ 8)) && z.cps.toList.all low26
  | _ => false
theorem strA : ("a" : Str).cps.toList = [97] := by decide +kernel
theorem strZ : ("z" : Str).cps.toList = [122] := by decide +kernel
theorem f_is_word_ok {x : PV} (h : dt x = true) (st : Sto) : f_is_word [x] st = .ok (.bl (wordP x)) st := by
  have hf := dt_flat h
  unfold f_is_word m_is_word
  cases x with
  | str z =>
    have hl := dt_str h
    rcases Bool.eq_false_or_eq_true (decide (1 ≤ (z.length : Int)) && decide ((z.length : Int) ≤ 8)) with hb | hb
    · have e := lc_all (it := mIter (mVar 0)) (i := 1) (m := mChain sLe sLe (mC (.str "a")) (mVar 1) (mC (.str "z"))) (vs := [1]) (env := [some (.str z), none]) (st := st) (g := fun x => low26 (sgn x)) rfl (fit_signs hl) fun x hx => by
        obtain ⟨c, rfl⟩ := mem_signs hx
        simp only [wipeL]
        simp_arith! [strA, strZ, lex1]
        show _ = Res.ok (PV.bl (low26 c)) st
        unfold low26
        congr 2
        rw [Bool.eq_iff_iff]
        simp only [Bool.and_eq_true, Bool.not_eq_true', decide_eq_false_iff_not, decide_eq_true_eq]
        omega
      simp_arith! [isi_str hf, lenS hl, v_MOST_LETTERS, hb, wordP, e, sall_map, all_signs]
    · simp_arith! [isi_str hf, lenS hl, v_MOST_LETTERS, hb, wordP]
  | _ => first | (cases hf; done) | simp_arith! [isi_str hf, wordP]
/-- pairs of a word and something -/
def pairP : PV → Bool
  | .tup [w, _] => wordP w
  | _ => false
def fst : PV → PV
  | .tup (x :: _) => x
  | _ => .non
def snd : PV → PV
  | .tup (_ :: y :: _) => y
  | _ => .non
def txtP : PV → Str
  | .str z => z
  | _ => Str.empty
def wordsP (xs : List PV) : List Str := xs.map fun x => txtP (fst x)
def ascP (ws : List Str) : Bool := decide (ws = sortU ws)
def tableP (lo hi : Int) : PV → Bool
  | .tup xs => (decide (lo ≤ xs.length) && decide ((xs.length : Int) ≤ hi)) && (xs.all pairP && ascP (wordsP xs))
  | _ => false
theorem pair_body {x : PV} (h : dt x = true) (env : Lo) (i : Nat) (he : env[i]? = some (some x)) (st : Sto) : mAnd (mApp (fnN 3 f_is_tuple) (mCons (mVar i) (mCons (mC (.int 2)) (mCons (mC (.int 2)) mNil)))) (mApp (fnN 1 f_is_word) (mCons (mBin sIx (mVar i) (mC (.int 0))) mNil)) env st = .ok (.bl (pairP x)) st := by
  have hf := dt_flat h
  cases x with
  | tup xs =>
    obtain ⟨_, hx⟩ := dt_tup h
    match xs, hx with
    | [], _ =>
      have e : isTupP 2 2 (.tup []) = false := rfl
      simp_arith! [he, f_is_tuple_ok hf, e, pairP]
    | [y], hx =>
      have e : isTupP 2 2 (.tup [y]) = false := rfl
      simp_arith! [he, f_is_tuple_ok hf, e, pairP]
    | [y, z], hx =>
      have e : isTupP 2 2 (.tup [y, z]) = true := rfl
      simp_arith! [he, f_is_tuple_ok hf, e, pairP, ix0, f_is_word_ok (hx y (List.mem_cons_self ..))]
    | y :: z :: w :: r, _ =>
      have e : isTupP 2 2 (.tup (y :: z :: w :: r)) = false := by simp only [isTupP, List.length_cons]; rw [Bool.and_eq_false_iff]; right; rw [decide_eq_false_iff_not]; omega
      simp_arith! [he, f_is_tuple_ok hf, e, pairP]
  | _ => first | (cases hf; done) | simp_arith! [he, f_is_tuple_ok hf, isTupP, pairP]
theorem word_ok {z : Str} (h : wordP (.str z) = true) : PyData.strOk z = true := by
  simp only [wordP, Bool.and_eq_true, List.all_eq_true, low26, decide_eq_true_eq] at h
  unfold PyData.strOk
  rw [Array.all_eq_true_iff_forall_mem]
  intro c hc
  have := h.2 c (Array.mem_toList_iff.mpr hc)
  exact decide_eq_true (by omega)
theorem pairP_fst {x : PV} (h : pairP x = true) : ∃ z y, x = .tup [.str z, y] ∧ wordP (.str z) = true := by
  unfold pairP at h
  split at h
  · rename_i w y
    cases w with
    | str z => exact ⟨z, y, rfl, h⟩
    | _ => exact nomatch h
  · exact nomatch h
theorem fst_map {xs : List PV} (h : ∀ x ∈ xs, pairP x = true) : xs.map fst = (wordsP xs).map .str := by
  unfold wordsP
  rw [List.map_map]
  refine List.map_congr_left fun x hx => ?_
  obtain ⟨z, y, rfl, _⟩ := pairP_fst (h x hx)
  rfl
theorem words_ok {xs : List PV} (h : ∀ x ∈ xs, pairP x = true) : ∀ w ∈ wordsP xs, PyData.strOk w = true := fun w hw => by
  obtain ⟨x, hx, rfl⟩ := List.mem_map.mp hw
  obtain ⟨z, y, rfl, hz⟩ := pairP_fst (h x hx)
  exact word_ok hz
theorem gc_same {st : Sto} {x : PV} (h : low st.length x = true) : gc st x st = .ok x st := by
  have := gc_keep (st := st) (t := []) h
  rwa [List.append_nil] at this
theorem f_words_of_ok {xs : List PV} (hfit : fitL xs = true) (h : ∀ x ∈ xs, pairP x = true) (st : Sto) : f_words_of [.tup xs] st = .ok (.lst ((wordsP xs).map .str)) st := by
  unfold f_words_of m_words_of
  have e2 := lc_map (it := mIter (mVar 0)) (i := 1) (m := mBin sIx (mVar 1) (mC (.int 0))) (vs := [1])
    (env := [some (.tup xs), none]) (st := st) (g := fst) rfl hfit fun x hm => by
      obtain ⟨z, y, rfl, _⟩ := pairP_fst (h x hm)
      simp only [wipeL]
      simp_arith! [ix0, fst]
  rw [fst_map h] at e2
  have lo : ∀ l : List Str, lows st.length (l.map .str) = true := fun l => by
    induction l with
    | nil => rfl
    | cons a l ih => simp only [List.map_cons, lows, low, ih, Bool.and_self]
  simp_arith! [e2, gc_same (st := st) (x := .lst ((wordsP xs).map .str)) (by simp only [low]; exact lo _)]
theorem f_is_table_ok {x : PV} (h : dt x = true) (lo hi : Int) (hh : hi < 40) (st : Sto) : f_is_table [x, .int lo, .int hi] st = .ok (.bl (tableP lo hi x)) st := by
  have hf := dt_flat h
  unfold f_is_table m_is_table
  cases x with
  | tup xs =>
    obtain ⟨hfit, hx⟩ := dt_tup h
    rcases Bool.eq_false_or_eq_true (isTupP lo hi (.tup xs)) with hb | hb
    · have hb2 := hb
      simp only [isTupP] at hb2
      have e := lc_all (it := mIter (mVar 0)) (i := 4) (m := mAnd (mApp (fnN 3 f_is_tuple) (mCons (mVar 4) (mCons (mC (.int 2)) (mCons (mC (.int 2)) mNil)))) (mApp (fnN 1 f_is_word) (mCons (mBin sIx (mVar 4) (mC (.int 0))) mNil))) (vs := [4])
        (env := [some (.tup xs), some (.int lo), some (.int hi), none, none]) (st := st) (g := pairP) rfl hfit fun x hm => pair_body (hx x hm) _ 4 rfl st
      rcases Bool.eq_false_or_eq_true (xs.all pairP) with hp | hp
      · have hp2 : ∀ x ∈ xs, pairP x = true := List.all_eq_true.mp hp
        have e2 := f_words_of_ok hfit hp2 st
        have hl : (wordsP xs).length < 40 := by
          simp only [Bool.and_eq_true, decide_eq_true_eq] at hb2
          unfold wordsP
          rw [List.length_map]
          omega
        have e3 := eq_strs (words_ok hp2) (b := sortU (wordsP xs)) (fun w hw => words_ok hp2 w ((sortU_mem _ _).mp hw)) st
        simp_arith! [f_is_tuple_ok hf, hb, e, sall_map, hp, e2, sortset_ok hl, e3, tableP, hb2, ascP]
      · simp_arith! [f_is_tuple_ok hf, hb, e, sall_map, hp, tableP, hb2]
    · have hb2 := hb
      simp only [isTupP] at hb2
      simp_arith! [f_is_tuple_ok hf, hb, tableP, hb2]
  | _ => first | (cases hf; done) | simp_arith! [f_is_tuple_ok hf, isTupP, tableP]
def kindP : PV → Bool
  | .str z => decide (z = "open") || decide (z = "frozen")
  | _ => false
/-- may be asked whether it is in a tuple -/
def plainP (x : PV) : Bool := match toD x with
  | some d => SeqAt.shaped d
  | none => false
theorem plain_of {x : PV} (h : plainP x = true) : ∃ d, toD x = some d ∧ SeqAt.shaped d = true := by
  unfold plainP at h
  split at h
  · exact ⟨_, by assumption, h⟩
  · cases h
theorem shaped_kinds : SeqAt.shaped (.tuple [.str "open", .str "frozen"]) = true := by decide +kernel
theorem shaped_kindsL : SeqAt.shaped (.list [.str "open", .str "frozen"]) = true := by decide +kernel
theorem toDS_flat {x : PV} (h : flat x = true) (st : Sto) : toDS st x = toD x := by cases x <;> first | (cases h; done) | rfl
theorem any_kinds {k : PV} {d : PyData} (h : toD k = some d) : ([.str "open", .str "frozen"] : List PyData).any (fun z => PyData.eqv z d) = kindP k := by
  cases k with
  | str z =>
    cases h
    simp only [List.any_cons, List.any_nil, PyData.eqv, kindP, Bool.or_false]
    rw [Bool.eq_iff_iff]
    simp only [Bool.or_eq_true, beq_iff_eq, decide_eq_true_eq]
    exact ⟨fun h => h.imp Eq.symm Eq.symm, fun h => h.imp Eq.symm Eq.symm⟩
  | tup xs => simp only [toD, Option.map_eq_some_iff] at h; obtain ⟨ds, _, rfl⟩ := h; simp [PyData.eqv, kindP]
  | lst xs => simp only [toD, Option.map_eq_some_iff] at h; obtain ⟨ds, _, rfl⟩ := h; simp [PyData.eqv, kindP]
  | rol xs => simp only [toD, Option.map_eq_some_iff] at h; obtain ⟨ds, _, rfl⟩ := h; simp [PyData.eqv, kindP]
  | non => cases h; simp [PyData.eqv, kindP]
  | bl b => cases h; simp [PyData.eqv, kindP]
  | int b => cases h; simp [PyData.eqv, kindP]
  | _ => simp [toD] at h
theorem inn_kinds {k : PV} (hf : flat k = true) (h : plainP k = true) (st : Sto) : sInn true k v_KINDS st = .ok (.bl (!kindP k)) st := by
  obtain ⟨d, h1, h2⟩ := plain_of h
  unfold v_KINDS
  simp only [sInn, toDS_flat hf, h1, toDs, toD, h2, shaped_kinds, Bool.and_self, if_true, any_kinds h1]
theorem inn_kindsL {k : PV} (hf : flat k = true) (h : plainP k = true) (st : Sto) : sInn true k (.lst [.str "open", .str "frozen"]) st = .ok (.bl (!kindP k)) st := by
  obtain ⟨d, h1, h2⟩ := plain_of h
  simp only [sInn, asD, asL, Option.bind_some, toDS_flat hf, h1, toDs, toD, h2, shaped_kindsL, Bool.and_self, if_true, any_kinds h1]
def items : PV → List PV
  | .tup xs => xs
  | _ => []
theorem pair2 {x : PV} {xs : List PV} (e : x = .tup xs) : (∃ k f, x = .tup [k, f]) ∨ (isTupP 2 2 x = false ∧ (∀ k f, x ≠ .tup [k, f]) ∧ decide ((xs.length : Int) ≠ 2) = true) := by
  subst e
  match xs with
  | [] => exact .inr ⟨rfl, nofun, rfl⟩
  | [y] => exact .inr ⟨rfl, nofun, rfl⟩
  | [y, z] => exact .inl ⟨y, z, rfl⟩
  | y :: z :: w :: r =>
    refine .inr ⟨?_, nofun, ?_⟩
    · simp only [isTupP, List.length_cons]
      rw [Bool.and_eq_false_iff]
      right
      rw [decide_eq_false_iff_not]
      omega
    · rw [decide_eq_true_eq]
      simp only [List.length_cons]
      omega
def objP (n : Int) : PV → Bool
  | .tup [k, f] => kindP k && (tableP 0 4 f && (items f).all fun x => valP n (snd x))
  | _ => false
theorem objP_no {n : Int} {x : PV} (h : ∀ k f, x ≠ .tup [k, f]) : objP n x = false := by
  unfold objP
  split
  · exact absurd rfl (h _ _)
  · rfl
theorem table_pairs {lo hi : Int} {x : PV} (h : tableP lo hi x = true) : ∃ xs, x = .tup xs ∧ (∀ y ∈ xs, pairP y = true) := by
  cases x with
  | tup xs =>
    simp only [tableP, Bool.and_eq_true] at h
    exact ⟨xs, rfl, List.all_eq_true.mp h.2.1⟩
  | _ => exact nomatch h
theorem dt_snd {x : PV} (h : dt x = true) (hp : pairP x = true) : dt (snd x) = true := by
  obtain ⟨z, y, rfl, _⟩ := pairP_fst hp
  exact (dt_tup h).2 y (by simp)
theorem f_is_object_ok {x : PV} (h : dt x = true) (hk : ∀ k f, x = .tup [k, f] → plainP k = true) (n : Int) (st : Sto) : f_is_object [x, .int n] st = .ok (.bl (objP n x)) st := by
  have hf := dt_flat h
  unfold f_is_object m_is_object
  cases x with
  | tup xs =>
    rcases pair2 (xs := xs) rfl with ⟨k, f, e⟩ | ⟨e1, e2, _⟩
    · cases e
      have hd := (dt_tup h).2
      have hkd := hd k (by simp)
      have hfd := hd f (by simp)
      have e : isTupP 2 2 (.tup [k, f]) = true := rfl
      rcases Bool.eq_false_or_eq_true (kindP k) with hb | hb
      · rcases Bool.eq_false_or_eq_true (tableP 0 4 f) with ht | ht
        · obtain ⟨fs, rfl, hp⟩ := table_pairs ht
          obtain ⟨ff, hfs⟩ := dt_tup hfd
          have e2 := lc_all (it := mIter (mVar 2)) (i := 3) (m := mApp (fnN 2 f_is_field_value) (mCons (mBin sIx (mVar 3) (mC (.int 1))) (mCons (mVar 1) mNil))) (vs := [3])
            (env := [some (.tup [k, .tup fs]), some (.int n), some (.tup fs), none]) (st := st) (g := fun x => valP n (snd x)) rfl ff fun x hm => by
              have hs := dt_snd (hfs x hm) (hp x hm)
              obtain ⟨z, y, rfl, _⟩ := pairP_fst (hp x hm)
              have hs : dt y = true := hs
              simp only [wipeL]
              simp_arith! [ix1, snd, f_is_field_value_ok hs]
          simp_arith! [f_is_tuple_ok hf, e, ix0, ix1, inn_kinds (dt_flat hkd) (hk k _ rfl), hb, v_MOST_FIELDS, f_is_table_ok hfd 0 4 (by decide), ht, e2, sall_map, objP, items]
        · simp_arith! [f_is_tuple_ok hf, e, ix0, ix1, inn_kinds (dt_flat hkd) (hk k _ rfl), hb, v_MOST_FIELDS, f_is_table_ok hfd 0 4 (by decide), ht, objP]
      · simp_arith! [f_is_tuple_ok hf, e, ix0, inn_kinds (dt_flat hkd) (hk k _ rfl), hb, objP]
    · simp_arith! [f_is_tuple_ok hf, e1, objP_no e2]
  | _ => first | (cases hf; done) | simp_arith! [f_is_tuple_ok hf, isTupP, objP]
def namesP (n : Int) (x : PV) : Bool := tableP 1 6 x && (items x).all fun y => numP n (snd y)
theorem f_is_names_ok {x : PV} (h : dt x = true) (n : Int) (st : Sto) : f_is_names [x, .int n] st = .ok (.bl (namesP n x)) st := by
  have hf := dt_flat h
  unfold f_is_names m_is_names
  rcases Bool.eq_false_or_eq_true (tableP 1 6 x) with ht | ht
  · obtain ⟨fs, rfl, hp⟩ := table_pairs ht
    obtain ⟨ff, hfs⟩ := dt_tup h
    have e2 := lc_all (it := mIter (mVar 0)) (i := 2) (m := mApp (fnN 2 f_is_number) (mCons (mBin sIx (mVar 2) (mC (.int 1))) (mCons (mVar 1) mNil))) (vs := [2])
      (env := [some (.tup fs), some (.int n), none]) (st := st) (g := fun x => numP n (snd x)) rfl ff fun x hm => by
        have hs := dt_snd (hfs x hm) (hp x hm)
        obtain ⟨z, y, rfl, _⟩ := pairP_fst (hp x hm)
        have hs : dt y = true := hs
        simp only [wipeL]
        simp_arith! [ix1, snd, f_is_number_ok (dt_flat hs)]
    simp_arith! [v_MOST_NAMES, f_is_table_ok h 1 6 (by decide), ht, e2, sall_map, namesP, items]
  · simp_arith! [v_MOST_NAMES, f_is_table_ok h 1 6 (by decide), ht, namesP]
def webP : PV → Bool
  | .tup [.tup os, ns] => (decide (1 ≤ (os.length : Int)) && decide ((os.length : Int) ≤ 30)) && (namesP os.length ns && os.all (objP os.length))
  | _ => false
/-- the objects' kinds may be asked for -/
def kindsOk : PV → Bool
  | .tup [.tup os, _] => os.all fun o => match o with
    | .tup [k, _] => plainP k
    | _ => true
  | _ => true
theorem webP_no {x : PV} (h : ∀ k f, x ≠ .tup [k, f]) : webP x = false := by
  unfold webP
  split
  · exact absurd rfl (h _ _)
  · rfl
theorem webP_no2 {x n : PV} (h : isTupP 1 30 x = false) : webP (.tup [x, n]) = false := by
  cases x with
  | tup os =>
    simp only [isTupP] at h
    simp only [webP, h, Bool.false_and]
  | _ => rfl
theorem f_is_web_ok {x : PV} (h : dt x = true) (hk : kindsOk x = true) (st : Sto) : f_is_web [x] st = .ok (.bl (webP x)) st := by
  have hf := dt_flat h
  unfold f_is_web m_is_web
  cases x with
  | tup xs =>
    rcases pair2 (xs := xs) rfl with ⟨o, ns, e⟩ | ⟨e1, e2, _⟩
    · cases e
      have hd := (dt_tup h).2
      have hod := hd o (by simp)
      have hnd := hd ns (by simp)
      have e : isTupP 2 2 (.tup [o, ns]) = true := rfl
      rcases Bool.eq_false_or_eq_true (isTupP 1 30 o) with hb | hb
      · cases o with
        | tup os =>
          have hb2 := hb
          simp only [isTupP] at hb2
          obtain ⟨fo, hos⟩ := dt_tup hod
          have hks := List.all_eq_true.mp (show os.all _ = true from hk)
          have e2 := lc_all (it := mIter (mVar 2)) (i := 4) (m := mApp (fnN 2 f_is_object) (mCons (mVar 4) (mCons (mVar 1) mNil))) (vs := [4])
            (env := [some (.tup [.tup os, ns]), some (.int os.length), some (.tup os), some ns, none]) (st := st) (g := objP os.length) rfl fo fun x hm => by
              have q := f_is_object_ok (hos x hm) (fun k f e => by subst e; exact hks _ hm) os.length st
              simp only [wipeL]
              simp_arith! [q]
          simp_arith! [f_is_tuple_ok hf, e, ix0, f_is_tuple_ok (dt_flat hod), v_MOST_OBJECTS, hb, setMany, len_ok_t, f_is_names_ok hnd, e2, sall_map, webP, hb2]
        | _ => exact nomatch hb
      · simp_arith! [f_is_tuple_ok hf, e, ix0, f_is_tuple_ok (dt_flat hod), v_MOST_OBJECTS, hb, webP_no2 hb]
    · simp_arith! [f_is_tuple_ok hf, e1, webP_no e2]
  | _ => first | (cases hf; done) | simp_arith! [f_is_tuple_ok hf, isTupP, webP]
end K01

set_option Elab.async false
set_option linter.all false
set_option maxRecDepth 100000
set_option maxHeartbeats 400000
namespace K01
open PySem PySem.Spec PyProof.Rows L2 Sim Pg
theorem str26 : ("abcdefghijklmnopqrstuvwxyz" : Str).cps.toList = (List.range 26).map (97 + ·) := by decide +kernel
theorem mem26 (c : Nat) : decide (c ∈ (List.range 26).map (97 + ·)) = low26 c := by
  unfold low26
  rw [Bool.eq_iff_iff]
  simp only [decide_eq_true_eq, Bool.and_eq_true, List.mem_map, List.mem_range]
  constructor
  · rintro ⟨a, h, rfl⟩
    omega
  · intro h
    exact ⟨c - 97, by omega, by omega⟩
theorem in26 (c : Nat) (st : Sto) : sInn false (.str ⟨#[c]⟩) (.str "abcdefghijklmnopqrstuvwxyz") st = .ok (.bl (low26 c)) st := by
  simp only [sInn, str26, mem26, Bool.false_eq_true, if_false]
theorem f__law_word_ok {x : PV} (h : dt x = true) (st : Sto) : f__law_word [x] st = .ok (.bl (wordP x)) st := by
  have hf := dt_flat h
  unfold f__law_word m__law_word
  cases x with
  | str z =>
    have hl := dt_str h
    rcases Bool.eq_false_or_eq_true (decide (1 ≤ (z.length : Int)) && decide ((z.length : Int) ≤ 8)) with hb | hb
    · have e := lc_all (it := mIter (mVar 0)) (i := 1) (m := mBin (sInn false) (mVar 1) (mC (.str "abcdefghijklmnopqrstuvwxyz"))) (vs := [1]) (env := [some (.str z), none]) (st := st) (g := fun x => low26 (sgn x)) rfl (fit_signs hl) fun x hx => by
        obtain ⟨c, rfl⟩ := mem_signs hx
        simp only [wipeL]
        simp_arith! [in26]
        rfl
      simp_arith! [isi_str hf, lenS hl, hb, wordP, e, sall_map, all_signs]
    · simp_arith! [isi_str hf, lenS hl, hb, wordP]
  | _ => first | (cases hf; done) | simp_arith! [isi_str hf, wordP]
theorem sub_ok (a b : Int) (st : Sto) : sSub (.int a) (.int b) st = .ok (.int (a - b)) st := rfl
theorem neg9 : (0 : Int) - 999999999 = -999999999 := rfl
theorem f__law_whole_ok {x : PV} (h : flat x = true) (st : Sto) : f__law_whole [x] st = .ok (.bl (isIntP x)) st := by
  unfold f__law_whole m__law_whole
  cases x <;> first | (cases h; done) | simp_arith! [isi_int h, isi_bool h, isIntP, sub_ok, neg9]
theorem f__law_number_ok {x : PV} (h : flat x = true) (n : Int) (st : Sto) : f__law_number [x, .int n] st = .ok (.bl (numP n x)) st := by
  unfold f__law_number m__law_number
  cases x <;> first | (cases h; done) | simp_arith! [f__law_whole_ok h, isIntP, numP]
theorem ne_int (a b : Int) (st : Sto) : sEqn true (.int a) (.int b) st = .ok (.bl (!decide (a = b))) st := rfl
theorem eq_int (a b : Int) (st : Sto) : sEqn false (.int a) (.int b) st = .ok (.bl (decide (a = b))) st := rfl
/-- the comparison of neighbours -/
def upx : List PV → Bool
  | x :: y :: r => decide ((txtP (fst x)).cps.toList < (txtP (fst y)).cps.toList) && upx (y :: r)
  | _ => true
theorem upx_words : ∀ xs : List PV, upx xs = upP (wordsP xs)
  | [] => rfl
  | [x] => rfl
  | x :: y :: r => by
    have := upx_words (y :: r)
    simp only [upx, this]
    rfl
def lt2 : PV → Bool
  | .wtp [x, y] => decide ((txtP (fst x)).cps.toList < (txtP (fst y)).cps.toList)
  | _ => true
theorem zip_up : ∀ xs : List PV, (zipP xs (xs.drop 1)).all lt2 = upx xs
  | [] => rfl
  | [x] => rfl
  | x :: y :: r => by
    have := zip_up (y :: r)
    simp only [List.drop_one, List.tail_cons] at this
    simp only [List.drop_one, List.tail_cons, zipP, List.all_cons, upx]
    rw [this]
    rfl
theorem zip_mem : ∀ {xs ys : List PV} {p : PV}, p ∈ zipP xs ys → ∃ x ∈ xs, ∃ y ∈ ys, p = .wtp [x, y]
  | x :: xs, y :: ys, p, h => by
    simp only [zipP, List.mem_cons] at h
    rcases h with rfl | h
    · exact ⟨x, List.mem_cons_self .., y, List.mem_cons_self .., rfl⟩
    · obtain ⟨a, ha, b, hb, e⟩ := zip_mem h
      exact ⟨a, List.mem_cons_of_mem _ ha, b, List.mem_cons_of_mem _ hb, e⟩
  | [], _, _, h => by simp [zipP] at h
  | _ :: _, [], _, h => by simp [zipP] at h
theorem zip_len : ∀ xs ys : List PV, (zipP xs ys).length ≤ xs.length
  | x :: xs, y :: ys => by
    have := zip_len xs ys
    simp only [zipP, List.length_cons]
    omega
  | [], _ => by simp [zipP]
  | _ :: _, [] => by simp [zipP]
theorem cut1 (xs : List PV) : cutP xs (some 1) none = xs.drop 1 := by
  unfold cutP
  have e : HT.sIx xs.length 0 (some 1) = min 1 xs.length := HT.sIx_nat xs.length 0 1
  rw [e, HT.sIx_none]
  cases xs with
  | nil => rfl
  | cons x r =>
    have e2 : min 1 (x :: r).length = 1 := by simp only [List.length_cons]; omega
    rw [e2]
    simp only [List.drop_one, List.tail_cons, List.length_cons, Nat.add_sub_cancel, List.take_length]
theorem pairP_no {x : PV} (h : ∀ k f, x ≠ .tup [k, f]) : pairP x = false := by
  unfold pairP
  split
  · exact absurd rfl (h _ _)
  · rfl
theorem row_body {x : PV} (h : dt x = true) (env : Lo) (he : env[2]? = some (some x)) (st : Sto) :
    bOr (bNot (bVal (mApp sIsi (mCons (mVar 2) (mCons (mC (.raw (.ty "tuple"))) mNil))))) (bOr (bVal (mBin sNe (mApp sLen (mCons (mVar 2) mNil)) (mC (.int 2)))) (bNot (bVal (mApp (fnN 1 f__law_word) (mCons (mBin sIx (mVar 2) (mC (.int 0))) mNil))))) env st = .ok (!pairP x) st := by
  have hf := dt_flat h
  cases x with
  | tup xs =>
    rcases pair2 (xs := xs) rfl with ⟨k, f, e⟩ | ⟨e1, e2, e3⟩
    · cases e
      have hk := (dt_tup h).2 k (by simp)
      have d2 : decide ((((0 + 1 + 1 : Nat)) : Int) = 2) = true := rfl
      simp_arith! [he, isi_tuple hf, len_ok_t, ne_int, ix0, f__law_word_ok hk, pairP, d2]
    · have e4 : decide ((xs.length : Int) = 2) = false := by simpa using e3
      simp_arith! [he, isi_tuple hf, len_ok_t, ne_int, e4, pairP_no e2]
  | _ => first | (cases hf; done) | simp_arith! [he, isi_tuple hf, pairP]
theorem slice1 (xs : List PV) (st : Sto) : sSlice (.tup xs) (some 1) none st = .ok (.tup (xs.drop 1)) st := by
  simp only [sSlice, cut1]
theorem tup_len (lo : Int) (xs : List PV) (m : Int) (hlo : lo ≤ 0) : (decide (lo ≤ (xs.length : Int)) && decide ((xs.length : Int) ≤ m)) = !decide (m < (xs.length : Int)) := by
  rw [Bool.eq_iff_iff]
  simp only [Bool.and_eq_true, decide_eq_true_eq, Bool.not_eq_true', decide_eq_false_iff_not]
  omega
theorem f__law_rows_ok {x : PV} (h : dt x = true) (m : Int) (st : Sto) : f__law_rows [x, .int m] st = .ok (.bl (tableP 0 m x)) st := by
  have hf := dt_flat h
  unfold f__law_rows m__law_rows
  cases x with
  | tup xs =>
    obtain ⟨hfit, hx⟩ := dt_tup h
    rcases Bool.eq_false_or_eq_true (decide (m < (xs.length : Int))) with hb | hb
    · simp_arith! [isi_tuple hf, len_ok_t, hb, tableP, tup_len 0 xs m (Int.le_refl 0)]
    · have loop := for_all (t := .one 2) (body := cIf (bOr (bNot (bVal (mApp sIsi (mCons (mVar 2) (mCons (mC (.raw (.ty "tuple"))) mNil))))) (bOr (bVal (mBin sNe (mApp sLen (mCons (mVar 2) mNil)) (mC (.int 2)))) (bNot (bVal (mApp (fnN 1 f__law_word) (mCons (mBin sIx (mVar 2) (mC (.int 0))) mNil)))))) (cRet (mC (.bl false))) cNil)
        (st := st) (g := pairP) (r := .bl false) (fun e => ∃ y, e = [some (.tup xs), some (.int m), y, none]) (xs := xs) (env := [some (.tup xs), some (.int m), none, none])
        (by
          rintro e ⟨y, rfl⟩ x hm
          refine ⟨_, rfl, fun hg => ⟨_, ⟨some x, rfl⟩, ?_⟩, fun hg => ?_⟩
          · exact (cIf_ok (row_body (hx x hm) [some (.tup xs), some (.int m), some x, none] rfl st)).trans (by rw [hg]; rfl)
          · exact (cIf_ok (row_body (hx x hm) [some (.tup xs), some (.int m), some x, none] rfl st)).trans (by rw [hg]; rfl)) ⟨none, rfl⟩
      rcases loop with ⟨ha, e, ⟨y, rfl⟩, hl⟩ | ⟨ha, hl⟩
      · have hp2 : ∀ x ∈ xs, pairP x = true := List.all_eq_true.mp ha
        have e2 := lcT_all (it := mZip (mVar 0) (mSlice (mVar 0) (oSome (mC (.int 1))) oNone)) (t := .many [2, 3]) (m := mBin sLt (mBin sIx (mVar 2) (mC (.int 0))) (mBin sIx (mVar 3) (mC (.int 0)))) (vs := [2, 3])
          (env := [some (.tup xs), some (.int m), y, none]) (st := st) (xs := zipP xs (xs.drop 1)) (g := lt2) (by
            simp only [mZip, mSlice, oSome, oNone]
            simp_arith! [slice1]) (by
            have := zip_len xs (xs.drop 1)
            unfold fitL at hfit ⊢
            rw [decide_eq_true_eq] at hfit ⊢
            omega) (fun p hp => by
            obtain ⟨a, ha, b, hb, rfl⟩ := zip_mem hp
            refine ⟨_, rfl, ?_⟩
            obtain ⟨z, u, rfl, _⟩ := pairP_fst (hp2 a ha)
            obtain ⟨z', u', rfl, _⟩ := pairP_fst (hp2 b (List.mem_of_mem_drop hb))
            simp only [wipeL, setMany]
            simp_arith! [ix0]
            rfl)
        simp_arith! [isi_tuple hf, len_ok_t, hb, hl, e2, sall_map, zip_up, upx_words, up_sort, tableP, tup_len 0 xs m (Int.le_refl 0), ha, ascP]
      · simp_arith! [isi_tuple hf, len_ok_t, hb, hl, tableP, tup_len 0 xs m (Int.le_refl 0), ha]
  | _ => first | (cases hf; done) | simp_arith! [isi_tuple hf, tableP]
def refP (n : Int) : PV → Bool
  | .tup [u] => numP n u
  | _ => false
theorem one1 {x : PV} {xs : List PV} (e : x = .tup xs) : (∃ u, x = .tup [u]) ∨ ((∀ n, refP n x = false) ∧ decide ((xs.length : Int) = 1) = false) := by
  subst e
  match xs with
  | [] => exact .inr ⟨fun _ => rfl, rfl⟩
  | [y] => exact .inl ⟨y, rfl⟩
  | y :: z :: r =>
    refine .inr ⟨fun _ => rfl, ?_⟩
    rw [decide_eq_false_iff_not]
    simp only [List.length_cons]
    omega
theorem ref_body {y : PV} (h : dt y = true) (n : Int) (env : Lo) (he : env[3]? = some (some y)) (hn : env[1]? = some (some (.int n))) (st : Sto) :
    mAnd (mApp sIsi (mCons (mVar 3) (mCons (mC (.raw (.ty "tuple"))) mNil))) (mAnd (mBin sEq (mApp sLen (mCons (mVar 3) mNil)) (mC (.int 1))) (mApp (fnN 2 f__law_number) (mCons (mBin sIx (mVar 3) (mC (.int 0))) (mCons (mVar 1) mNil)))) env st = .ok (.bl (refP n y)) st := by
  have hf := dt_flat h
  cases y with
  | tup xs =>
    rcases one1 (xs := xs) rfl with ⟨u, e⟩ | ⟨e1, e2⟩
    · cases e
      have hu := (dt_tup h).2 u (by simp)
      have d1 : decide (((0 + 1 : Nat) : Int) = 1) = true := rfl
      simp_arith! [he, hn, isi_tuple hf, len_ok_t, eq_int, d1, ix0, f__law_number_ok (dt_flat hu), refP]
    · simp_arith! [he, isi_tuple hf, len_ok_t, eq_int, e2, e1]
  | _ => first | (cases hf; done) | simp_arith! [he, isi_tuple hf, refP]
theorem valP_eq (n : Int) (x : PV) : valP n x = (isIntP x || refP n x) := by
  cases x <;> rfl
theorem fit0 : fitL ([] : List PV) = true := rfl
theorem fit2 (a b : PV) : fitL [a, b] = true := rfl
theorem f__law_thing_ok {x : PV} (h : dt x = true) (hk : ∀ k f, x = .tup [k, f] → plainP k = true) (n : Int) (st : Sto) : f__law_thing [x, .int n] st = .ok (.bl (objP n x)) st := by
  have hf := dt_flat h
  unfold f__law_thing m__law_thing
  cases x with
  | tup xs =>
    rcases pair2 (xs := xs) rfl with ⟨k, f, e⟩ | ⟨e1, e2, e3⟩
    · cases e
      have hd := (dt_tup h).2
      have hkd := hd k (by simp)
      have hfd := hd f (by simp)
      have d2 : decide ((((0 + 1 + 1 : Nat)) : Int) = 2) = true := rfl
      rcases Bool.eq_false_or_eq_true (is_str k) with hs | hs
      · obtain ⟨kz, rfl⟩ : ∃ z, k = .str z := by cases k <;> first | exact ⟨_, rfl⟩ | (cases hs; done)
        rcases Bool.eq_false_or_eq_true (kindP (.str kz)) with hb | hb
        · rcases Bool.eq_false_or_eq_true (tableP 0 4 f) with ht | ht
          · obtain ⟨fs, rfl, hp⟩ := table_pairs ht
            obtain ⟨ff, hfs⟩ := dt_tup hfd
            have loop := for_all (t := .many [2, 3]) (body := cSeq (cSet (.one 4) (mAnd (mApp sIsi (mCons (mVar 3) (mCons (mC (.raw (.ty "tuple"))) mNil))) (mAnd (mBin sEq (mApp sLen (mCons (mVar 3) mNil)) (mC (.int 1))) (mApp (fnN 2 f__law_number) (mCons (mBin sIx (mVar 3) (mC (.int 0))) (mCons (mVar 1) mNil))))))
                (cIf (bAnd (bNot (bVal (mApp (fnN 1 f__law_whole) (mCons (mVar 3) mNil)))) (bNot (bVal (mVar 4)))) (cRet (mC (.bl false))) cNil))
              (st := st) (g := fun x => valP n (snd x)) (r := .bl false) (fun e => ∃ a b c, e = [some (.tup [.str kz, .tup fs]), some (.int n), a, b, c]) (xs := fs) (env := [some (.tup [.str kz, .tup fs]), some (.int n), none, none, none])
              (by
                rintro e ⟨a, b, c, rfl⟩ x hm
                have hs := dt_snd (hfs x hm) (hp x hm)
                obtain ⟨z, y, rfl, _⟩ := pairP_fst (hp x hm)
                have hs : dt y = true := hs
                have q := ref_body hs n [some (.tup [.str kz, .tup fs]), some (.int n), some (.str z), some y, c] rfl rfl st
                refine ⟨_, rfl, fun hg => ⟨[some (.tup [.str kz, .tup fs]), some (.int n), some (.str z), some y, some (.bl (refP n y))], ⟨_, _, _, rfl⟩, ?_⟩, fun hg => ?_⟩
                · rw [valP_eq] at hg
                  have hg : (isIntP y || refP n y) = true := hg
                  simp only [setMany, List.set_cons_zero, List.set_cons_succ, cSeq, cSet, q, Tgt.run]
                  simp_arith! [f__law_whole_ok (dt_flat hs)]
                  rw [← Bool.not_or, hg]
                  rfl
                · rw [valP_eq] at hg
                  have hg : (isIntP y || refP n y) = false := hg
                  simp only [setMany, List.set_cons_zero, List.set_cons_succ, cSeq, cSet, q, Tgt.run]
                  simp_arith! [f__law_whole_ok (dt_flat hs)]
                  rw [← Bool.not_or, hg]
                  rfl) ⟨_, _, _, rfl⟩
            rcases loop with ⟨ha, e, ⟨a, b, c, rfl⟩, hl⟩ | ⟨ha, hl⟩
            · simp_arith! [isi_tuple hf, isi_str (dt_flat hkd), len_ok_t, ne_int, d2, ix0, ix1, sLstF, fit2, inn_kindsL (dt_flat hkd) (hk (.str kz) _ rfl), hb, f__law_rows_ok hfd, ht, hl, objP, items, ha]
            · simp_arith! [isi_tuple hf, isi_str (dt_flat hkd), len_ok_t, ne_int, d2, ix0, ix1, sLstF, fit2, inn_kindsL (dt_flat hkd) (hk (.str kz) _ rfl), hb, f__law_rows_ok hfd, ht, hl, objP, items, ha]
          · simp_arith! [isi_tuple hf, isi_str (dt_flat hkd), len_ok_t, ne_int, d2, ix0, ix1, sLstF, fit2, inn_kindsL (dt_flat hkd) (hk (.str kz) _ rfl), hb, f__law_rows_ok hfd, ht, objP]
        · simp_arith! [isi_tuple hf, isi_str (dt_flat hkd), len_ok_t, ne_int, d2, ix0, sLstF, fit2, inn_kindsL (dt_flat hkd) (hk (.str kz) _ rfl), hb, objP]
      · have hb : kindP k = false := by cases k <;> first | rfl | (cases hs; done)
        cases k <;> first | (cases hs; done) | simp_arith! [isi_tuple hf, isi_str (dt_flat hkd), len_ok_t, ne_int, d2, ix0, objP, hb]
    · have e4 : decide ((xs.length : Int) = 2) = false := by simpa using e3
      simp_arith! [isi_tuple hf, len_ok_t, ne_int, e4, objP_no e2]
  | _ => first | (cases hf; done) | simp_arith! [isi_tuple hf, objP]
/-- the names may be asked whether they are () -/
def namesOk : PV → Bool
  | .tup [.tup _, ns] => !tableP 0 6 ns || plainP ns
  | _ => true
theorem toDs_nil {xs : List PV} {ds : List PyData} (h : toDs xs = some ds) : decide (ds = []) = decide (xs = []) := by
  cases xs with
  | nil => cases h; rfl
  | cons x xs =>
    simp only [toDs] at h
    split at h
    · cases h; simp
    · cases h
theorem eq_unit {xs : List PV} (h : plainP (.tup xs) = true) (st : Sto) : sEqn false (.tup xs) (.tup []) st = .ok (.bl (decide (xs = []))) st := by
  obtain ⟨d, h1, h2⟩ := plain_of h
  simp only [toD, Option.map_eq_some_iff] at h1
  obtain ⟨ds, h3, rfl⟩ := h1
  have f : flatEq (.tup xs) (.tup []) = none := rfl
  have e1 : toDS st (.tup xs) = some (.tuple ds) := by simp only [toDS, toD, h3, Option.map_some]
  have e2 : toDS st (.tup []) = some (.tuple []) := rfl
  have e3 : SeqAt.shaped (.tuple []) = true := by decide +kernel
  have e4 : PyData.eqv (.tuple ds) (.tuple []) = decide (ds = []) := by
    cases ds <;> simp [PyData.eqv, PyData.eqvAll]
  unfold sEqn
  simp only [f, e1, e2, h2, e3, Bool.and_self, if_true, e4, toDs_nil h3, Bool.false_eq_true, if_false]
theorem table0 {hi : Int} {xs : List PV} : tableP 1 hi (.tup xs) = (tableP 0 hi (.tup xs) && !decide (xs = [])) := by
  cases xs with
  | nil => simp [tableP]
  | cons x xs =>
    rw [Bool.eq_iff_iff]
    simp only [tableP, Bool.and_eq_true, decide_eq_true_eq, List.length_cons, reduceCtorEq, decide_false, Bool.not_false, and_true]
    constructor
    · rintro ⟨⟨_, h1⟩, h2⟩; exact ⟨⟨by omega, h1⟩, h2⟩
    · rintro ⟨⟨_, h1⟩, h2⟩; exact ⟨⟨by omega, h1⟩, h2⟩
theorem f__law_is_ok {x : PV} (h : dt x = true) (hk : kindsOk x = true) (hn : namesOk x = true) (st : Sto) : f__law_is [x] st = .ok (.bl (webP x)) st := by
  have hf := dt_flat h
  unfold f__law_is m__law_is
  cases x with
  | tup xs =>
    rcases pair2 (xs := xs) rfl with ⟨o, ns, e⟩ | ⟨e1, e2, e3⟩
    · cases e
      have hd := (dt_tup h).2
      have hod := hd o (by simp)
      have hnd := hd ns (by simp)
      have d2 : decide ((((0 + 1 + 1 : Nat)) : Int) = 2) = true := rfl
      cases o with
      | tup os =>
        rcases Bool.eq_false_or_eq_true (decide (1 ≤ (os.length : Int)) && decide ((os.length : Int) ≤ 30)) with hb | hb
        · obtain ⟨fo, hos⟩ := dt_tup hod
          have hks := List.all_eq_true.mp (show os.all _ = true from hk)
          have e2 := lc_all (it := mIter (mBin sIx (mVar 0) (mC (.int 0)))) (i := 4) (m := mApp (fnN 2 f__law_thing) (mCons (mVar 4) (mCons (mVar 1) mNil))) (vs := [4])
            (env := [some (.tup [.tup os, ns]), some (.int os.length), none, none, none]) (st := st) (g := objP os.length) (xs := os) (by simp_arith! [ix0]) fo fun x hm => by
              have q := f__law_thing_ok (hos x hm) (fun k f e => by subst e; exact hks _ hm) os.length st
              simp only [wipeL]
              simp_arith! [q]
          rcases Bool.eq_false_or_eq_true (os.all (objP os.length)) with ho | ho
          · rcases Bool.eq_false_or_eq_true (tableP 0 6 ns) with ht | ht
            · have hpl : plainP ns = true := by simpa [namesOk, ht] using hn
              obtain ⟨fs, rfl, hp⟩ := table_pairs ht
              obtain ⟨ff, hfs⟩ := dt_tup hnd
              rcases Bool.eq_false_or_eq_true (decide (fs = [])) with hz | hz
              · have e4 : tableP 1 6 (.tup fs) = false := by rw [table0, hz, ht]; rfl
                simp_arith! [isi_tuple hf, isi_tuple (dt_flat hod), len_ok_t, ne_int, d2, ix0, hb, e2, sall_map, ho, ix1, f__law_rows_ok hnd, ht, sTup, fit0, eq_unit hpl, hz, webP, namesP, e4]
              · have e4 : tableP 1 6 (.tup fs) = true := by rw [table0, hz, ht]; rfl
                have e5 := lcT_all (it := mIter (mBin sIx (mVar 0) (mC (.int 1)))) (t := .many [2, 3]) (m := mApp (fnN 2 f__law_number) (mCons (mVar 3) (mCons (mVar 1) mNil))) (vs := [2, 3])
                  (env := [some (.tup [.tup os, .tup fs]), some (.int os.length), none, none, none]) (st := st) (xs := fs) (g := fun x => numP os.length (snd x)) (by simp_arith! [ix1]) ff (fun x hm => by
                    have hs := dt_snd (hfs x hm) (hp x hm)
                    obtain ⟨z, y, rfl, _⟩ := pairP_fst (hp x hm)
                    have hs : dt y = true := hs
                    refine ⟨_, rfl, ?_⟩
                    simp only [wipeL, setMany]
                    simp_arith! [f__law_number_ok (dt_flat hs)]
                    rfl)
                simp_arith! [isi_tuple hf, isi_tuple (dt_flat hod), len_ok_t, ne_int, d2, ix0, hb, e2, sall_map, ho, ix1, f__law_rows_ok hnd, ht, sTup, fit0, eq_unit hpl, hz, e5, webP, namesP, e4, items]
            · have e4 : tableP 1 6 ns = false := by
                cases ns with
                | tup fs => rw [table0, ht]; rfl
                | _ => rfl
              simp_arith! [isi_tuple hf, isi_tuple (dt_flat hod), len_ok_t, ne_int, d2, ix0, hb, e2, sall_map, ho, ix1, f__law_rows_ok hnd, ht, webP, namesP, e4]
          · simp_arith! [isi_tuple hf, isi_tuple (dt_flat hod), len_ok_t, ne_int, d2, ix0, hb, e2, sall_map, ho, webP]
        · simp_arith! [isi_tuple hf, isi_tuple (dt_flat hod), len_ok_t, ne_int, d2, ix0, hb, webP]
      | _ => first | (have q := dt_flat hod; cases q; done) | simp_arith! [isi_tuple hf, isi_tuple (dt_flat hod), len_ok_t, ne_int, d2, ix0, webP]
    · have e4 : decide ((xs.length : Int) = 2) = false := by simpa using e3
      simp_arith! [isi_tuple hf, len_ok_t, ne_int, e4, webP_no e2]
  | _ => first | (cases hf; done) | simp_arith! [isi_tuple hf, webP]
end K01


set_option Elab.async false
set_option linter.all false
set_option maxRecDepth 100000
set_option maxHeartbeats 400000
namespace K01
open PySem PySem.Spec PyProof.Rows L2 Sim Pg
theorem eqs_self (z : Str) (st : Sto) : sEqn false (.str z) (.str z) st = .ok (.bl true) st := by
  unfold sEqn
  simp only [flatEq, decide_true, Bool.false_eq_true, if_false]
theorem eqb_self (b : Bool) (st : Sto) : sEqn false (.bl b) (.bl b) st = .ok (.bl true) st := by
  unfold sEqn
  simp only [flatEq, decide_true, Bool.false_eq_true, if_false]
structure Nice (x : PV) : Prop where
  nv : nv 8 x = true
  sz : sz x ≤ 2 ^ 20
  ks : kindsOk x = true
  ns : namesOk x = true
theorem Nice.dt {x : PV} (h : Nice x) : dt x = true := nv_dt h.nv h.sz
theorem f__law_good_ok {x : PV} (h : Nice x) (st : Sto) : f__law_good [x] st = .ok (.bl true) st := by
  obtain ⟨z, hz⟩ := shows_of (by decide) h.nv h.sz
  have q1 := f_is_web_ok h.dt h.ks
  have q2 := f__law_is_ok h.dt h.ks h.ns
  have q3 : isTy "bool" "bool" = true := rfl
  have q4 : ∀ b st, sIsi [.bl b, .raw (.ty "bool")] st = .ok (.bl true) st := fun b st => rfl
  unfold f__law_good m__law_good
  simp_arith! [hz, q1, q2, q4, eqs_self, eqb_self, fnK, permL, List.filterMap_cons, List.filterMap_nil]
/-! ### digits -/
theorem ixM (st : Sto) (k : Nat) (x : PV) (xs : List PV) (h : st[k]? = some (.lst (x :: xs))) : sIx (.ref k) (.int 0) st = .ok x st := by
  have e : atI (x :: xs) 0 = some x := atI_nat (xs := x :: xs) (i := 0) (by simp)
  simp only [sIx, asD, asL, h, e]
theorem int_ok (a : Int) (st : Sto) : sInt [.int a] st = .ok (.int a) st := rfl
theorem mod_ok (a b : Int) (hb : 0 < b) (st : Sto) : sMod (.int a) (.int b) st = .ok (.int (a % b)) st := by
  simp only [sMod, decide_eq_true hb, if_true]
theorem div_ok (a b : Int) (hb : 0 < b) (hl : b.natAbs.log2 < 9000) (st : Sto) : sDiv (.int a) (.int b) st = .ok (.int (a / b)) st := by
  simp only [sDiv, decide_eq_true hb, decide_eq_true hl, Bool.and_self, if_true]
theorem log_of {b : Int} (h : b < 10000000000) (h0 : 0 < b) : b.natAbs.log2 < 9000 := by
  have h1 : b.natAbs < 2 ^ 40 := by have : (2 : Nat) ^ 40 = 1099511627776 := by decide
                                    omega
  have := (Nat.log2_lt (by omega)).mpr h1
  omega
theorem setIx_ok (st : Sto) (k : Nat) (x v : PV) (h : st[k]? = some (.lst [x])) : sSetIx (.ref k) (.int 0) v st = .ok () (st.set k (.lst [v])) := by
  simp only [sSetIx, h]
  rfl
/-- a digit: what remains is in the list of one -/
theorem f__law_take_ok {st : Sto} {k : Nat} {a n : Int} (h : st[k]? = some (.lst [.int a])) (h0 : 0 < n) (h1 : n < 10000000000) :
    f__law_take [.ref k, .int n] st = .ok (.int (a % n)) (st.set k (.lst [.int (a / n)])) := by
  have hk : k < st.length := by
    rcases Nat.lt_or_ge k st.length with q | q
    · exact q
    · rw [List.getElem?_eq_none q] at h; cases h
  unfold f__law_take m__law_take
  simp_arith! [ixM st k _ _ h, int_ok, mod_ok _ _ h0, div_ok _ _ h0 (log_of h1 h0), cSetIx, setIx_ok st k _ _ h]
  rw [gc_fit]
  · congr 1
    rw [List.take_of_length_le (by simp)]
  · rfl
  · simp
  · intro i b hi hb
    rw [List.getElem?_set] at hb
    split at hb
    · rename_i e
      cases hb
      exact .inr rfl
    · exact .inl hb
theorem take_sp {st : Sto} {k : Nat} {n : Int} (h : ∃ a : Int, st[k]? = some (.lst [.int a])) (h0 : 0 < n) (h1 : n < 10000000000) :
    ∃ d a, f__law_take [.ref k, .int n] st = .ok (.int d) (st.set k (.lst [.int a])) ∧ 0 ≤ d ∧ d < n := by
  obtain ⟨a, h⟩ := h
  exact ⟨_, _, f__law_take_ok h h0 h1, Int.emod_nonneg _ (by omega), Int.emod_lt_of_pos _ h0⟩
end K01

set_option Elab.async false
set_option linter.all false
set_option maxRecDepth 100000
set_option maxHeartbeats 1000000
namespace K01
open PySem PySem.Spec PyProof.Rows L2 Sim Pg
/-! ### drawn fields -/
structure FieldOk (n : Int) (x : PV) : Prop where
  pr : pairP x = true
  vl : valP n (snd x) = true
  nv : nv 2 x = true
  pl : pl x = true
  sz : sz x ≤ 20
def words4 : List Str := ["a", "ab", "longname", "x"]
theorem words4_up : words4.Pairwise ltS := up_pw.mp (by decide +kernel)
theorem words4_ok : ∀ w ∈ words4, wordP (.str w) = true ∧ nv 1 (.str w) = true ∧ w.cps.size ≤ 8 := by
  intro w hw
  have h : words4.all (fun w => wordP (.str w) && (nv 1 (.str w) && decide (w.cps.size ≤ 8))) = true := by decide +kernel
  have := List.all_eq_true.mp h w hw
  simpa only [Bool.and_eq_true, decide_eq_true_eq] using this
theorem field_of {w : Str} (hw : w ∈ words4) {n : Int} {v : PV} (hv : valP n v = true) (h1 : nv 1 v = true) (h2 : pl v = true) (h3 : sz v ≤ 9) : FieldOk n (.tup [.str w, v]) := by
  obtain ⟨q1, q2, q3⟩ := words4_ok w hw
  refine ⟨q1, hv, ?_, ?_, ?_⟩
  · show (nv 1 (.str w) && (nv 1 v && true)) = true
    rw [q2, h1]; rfl
  · simp only [pl, pls, h2, Bool.and_self]
  · simp only [sz, szs]; omega
theorem wordsP_app (xs : List PV) (x : PV) : wordsP (xs ++ [x]) = wordsP xs ++ [txtP (fst x)] := by
  simp [wordsP]
theorem ref_val {n d : Int} (h0 : 0 ≤ d) (h1 : d < n) (hn : n < 1000000) : valP n (.tup [.int d]) = true := by
  simp only [valP, isIntP, numP, Bool.false_or, Bool.and_eq_true, decide_eq_true_eq]
  omega
theorem ref_nv {d : Int} (h0 : 0 ≤ d) (h1 : d < 1000000) : nv 1 (.tup [.int d]) = true := by
  simp only [nv, nvs, Bool.and_true, Bool.and_eq_true, decide_eq_true_eq]
  omega
theorem int_val {n d : Int} (h0 : -999999999 ≤ d) (h1 : d ≤ 999999999) : valP n (.int d) = true := by
  simp only [valP, isIntP, Bool.or_false, Bool.and_eq_true, decide_eq_true_eq]
  omega
theorem int_nv {k : Nat} {d : Int} (h0 : -999999999 ≤ d) (h1 : d ≤ 999999999) : nv k (.int d) = true := by
  simp only [nv, Bool.and_eq_true, decide_eq_true_eq]
  omega
/-- the store while fields are drawn -/
abbrev sF (st : Sto) (k : Nat) (a : Int) (fs : List PV) : Sto := st.set k (.lst [.int a]) ++ [.lst fs]
theorem sF_k {st : Sto} {k : Nat} (hk : k < st.length) (a : Int) (fs : List PV) : (sF st k a fs)[k]? = some (.lst [.int a]) := by
  rw [get_low (by simpa using hk), get_set hk]
theorem sF_L {st : Sto} {k : Nat} (a : Int) (fs : List PV) : (sF st k a fs)[st.length]? = some (.lst fs) := by
  have := get_end (st.set k (.lst [.int a])) (.lst fs)
  rwa [List.length_set] at this
theorem sF_set {st : Sto} {k : Nat} (hk : k < st.length) (a b : Int) (fs : List PV) : (sF st k a fs).set k (.lst [.int b]) = sF st k b fs := by
  rw [set_low (by simpa using hk), List.set_set]
theorem sF_app {st : Sto} {k : Nat} (a : Int) (fs gs : List PV) : (sF st k a fs).set st.length (.lst gs) = sF st k a gs := by
  have := set_end (st.set k (.lst [.int a])) (.lst fs) (.lst gs)
  rwa [List.length_set] at this
theorem take_sF {st : Sto} {k : Nat} (hk : k < st.length) (a : Int) (fs : List PV) {n : Int} (h0 : 0 < n) (h1 : n < 10000000000) :
    ∃ d b, f__law_take [.ref k, .int n] (sF st k a fs) = .ok (.int d) (sF st k b fs) ∧ 0 ≤ d ∧ d < n := by
  obtain ⟨d, b, q, q1, q2⟩ := take_sp (n := n) ⟨a, sF_k hk a fs⟩ h0 h1
  rw [sF_set hk] at q
  exact ⟨d, b, q, q1, q2⟩
theorem app_sF {st : Sto} {k : Nat} (a : Int) {fs : List PV} (hl : fs.length < 1000) (y : PV) : sApp (.ref st.length) y (sF st k a fs) = .ok .non (sF st k a (fs ++ [y])) := by
  rw [app_ok (sF_L a fs) (by omega), sF_app]
theorem neg1 : (0 : Int) - 1 = -1 := rfl
theorem fields_sp {st : Sto} {k : Nat} {n : Int} (hk : ∃ a : Int, st[k]? = some (.lst [.int a])) (h0 : 0 < n) (h1 : n < 1000) :
    ∃ fs a, f__law_fields [.ref k, .int n] st = .ok (.tup fs) (st.set k (.lst [.int a])) ∧ (∀ x ∈ fs, FieldOk n x) ∧ (wordsP fs).Pairwise ltS ∧ fs.length ≤ 4 := by
  obtain ⟨a0, ha0⟩ := hk
  have hkl := in_st ha0
  unfold f__law_fields m__law_fields
  have loop := for_inv (t := .one 3) (body := (cSeq (cSet (.one 4) (mApp (fnN 2 f__law_take) (mCons (mVar 0) (mCons (mC (.int 5)) mNil))))
    (cIf (bVal (mBin sLt (mVar 4) (mC (.int 2))))
    (cExpr (mAppend (mVar 2) (mApp sTup (mCons (mVar 3) (mCons (mApp sTup (mCons (mApp (fnN 2 f__law_take) (mCons (mVar 0) (mCons (mVar 1) mNil))) mNil)) mNil)))))
    (cIf (bVal (mBin sEq (mVar 4) (mC (.int 2))))
    (cExpr (mAppend (mVar 2) (mApp sTup (mCons (mVar 3) (mCons (mBin sIx (mApp sLstF (mCons (mC (.int 0)) (mCons (mC (.int 1)) (mCons (mBin sSub (mC (.int 0)) (mC (.int 1))) (mCons (mC (.int 7)) (mCons (mC (.int 999999999)) mNil)))))) (mApp (fnN 2 f__law_take) (mCons (mVar 0) (mCons (mC (.int 5)) mNil)))) mNil)))))
    cNil))))
    (fun rem e s => ∃ fs w y a, e = [some (.ref k), some (.int n), some (.ref st.length), w, y] ∧ s = sF st k a fs ∧ (∀ x ∈ fs, FieldOk n x) ∧ fs.length + rem.length ≤ 4 ∧ ∃ ws, rem = ws.map .str ∧ (wordsP fs ++ ws).Pairwise ltS ∧ ∀ w ∈ ws, w ∈ words4)
    (by
      rintro x xs e s ⟨fs, w, y, a, rfl, rfl, hf, hl, ws, he, hp, hw⟩
      obtain ⟨u, ws, rfl⟩ : ∃ u v, ws = u :: v := by
        cases ws with
        | nil => cases he
        | cons u v => exact ⟨u, v, rfl⟩
      simp only [List.map_cons, List.cons.injEq] at he
      obtain ⟨rfl, rfl⟩ := he
      simp only [List.length_cons] at hl
      refine ⟨_, rfl, ?_⟩
      obtain ⟨d, b, q1, q2, q3⟩ := take_sF hkl a fs (n := 5) (by decide) (by decide)
      have hu := hw u (List.mem_cons_self ..)
      have hw' : ∀ w ∈ ws, w ∈ words4 := fun w h => hw w (List.mem_cons_of_mem _ h)
      have hadd : ∀ v, FieldOk n (.tup [.str u, v]) → (∀ x ∈ fs ++ [.tup [.str u, v]], FieldOk n x) ∧ (fs ++ [PV.tup [.str u, v]]).length + (ws.map PV.str).length ≤ 4 ∧ (wordsP (fs ++ [.tup [.str u, v]]) ++ ws).Pairwise ltS := by
        intro v hv
        refine ⟨?_, ?_, ?_⟩
        · intro x hx
          rcases List.mem_append.mp hx with hx | hx
          · exact hf x hx
          · rw [List.mem_singleton.mp hx]; exact hv
        · simp only [List.length_append, List.length_cons, List.length_nil, List.length_map] at hl ⊢; omega
        · rw [wordsP_app, List.append_assoc]; exact hp
      rcases Bool.eq_false_or_eq_true (decide (d < 2)) with hd | hd
      · obtain ⟨d2, b2, r1, r2, r3⟩ := take_sF hkl b fs (n := n) h0 (by omega)
        obtain ⟨a1, a2, a3⟩ := hadd _ (field_of hu (ref_val r2 r3 (by omega)) (ref_nv r2 (by omega)) rfl (by simp [sz, szs]))
        refine ⟨_, _, ?_, _, some (.str u), some (.int d), b2, rfl, rfl, a1, a2, ws, rfl, a3, hw'⟩
        simp_arith! [q1, hd, mAppend, isl_ok (sF_L b fs), r1, tup_ok (xs := [.int d2]) rfl, tup_ok (xs := [.str u, .tup [.int d2]]) rfl, app_sF b2 (fs := fs) (by omega)]
      · rcases Bool.eq_false_or_eq_true (decide (d = 2)) with hd2 | hd2
        · obtain ⟨d2, b2, r1, r2, r3⟩ := take_sF hkl b fs (n := 5) (by decide) (by decide)
          obtain ⟨i, rfl⟩ := Int.eq_ofNat_of_zero_le r2
          have hi : i < 5 := by omega
          have hix := ixLF (xs := [.int 0, .int 1, .int (-1), .int 7, .int 999999999]) (i := i) hi
          have hv : ∃ v : Int, ([.int 0, .int 1, .int (-1), .int 7, .int 999999999] : List PV)[i]'hi = .int v ∧ -999999999 ≤ v ∧ v ≤ 999999999 := by
            match i, hi with
            | 0, _ => exact ⟨0, rfl, by decide, by decide⟩
            | 1, _ => exact ⟨1, rfl, by decide, by decide⟩
            | 2, _ => exact ⟨-1, rfl, by decide, by decide⟩
            | 3, _ => exact ⟨7, rfl, by decide, by decide⟩
            | 4, _ => exact ⟨999999999, rfl, by decide, by decide⟩
          obtain ⟨v, ev, v1, v2⟩ := hv
          rw [ev] at hix
          obtain ⟨a1, a2, a3⟩ := hadd _ (field_of hu (int_val (n := n) v1 v2) (int_nv v1 v2) rfl (by simp [sz]))
          refine ⟨_, _, ?_, _, some (.str u), some (.int d), b2, rfl, rfl, a1, a2, ws, rfl, a3, hw'⟩
          simp_arith! [q1, hd, eq_eq_int, hd2, mAppend, isl_ok (sF_L b fs), sub_ok, neg1, lstF_ok (xs := [.int 0, .int 1, .int (-1), .int 7, .int 999999999]) rfl, r1, hix, tup_ok (xs := [.str u, .int v]) rfl, app_sF b2 (fs := fs) (by omega)]
        · refine ⟨_, _, ?_, fs, some (.str u), some (.int d), b, rfl, rfl, hf, ?_, ws, rfl, ?_, hw'⟩
          · simp_arith! [q1, hd, eq_eq_int, hd2]
          · simp only [List.length_map] at hl ⊢; omega
          · exact hp.sublist (List.Sublist.append_left (List.sublist_cons_self ..) _))
    (xs := words4.map .str) (e := [some (.ref k), some (.int n), some (.ref st.length), none, none]) (s := st ++ [.lst []])
    ⟨[], none, none, a0, rfl, by rw [sF, set_same ha0], by simp, by decide, words4, rfl, words4_up, fun w h => h⟩
  obtain ⟨e, s, q1, fs, w, y, a, rfl, rfl, hf, hl, ws, he, hp, hw⟩ := loop
  obtain rfl : ws = [] := by cases ws <;> first | rfl | (cases he; done)
  rw [List.append_nil] at hp
  refine ⟨fs, a, ?_, hf, hp, by simpa using hl⟩
  rw [show words4.map PV.str = [.str "a", .str "ab", .str "longname", .str "x"] from rfl] at q1
  have hn : nv 3 (.tup fs) = true := nvs_iff.mpr fun x hx => (hf x hx).nv
  simp_arith! [lstM_ok (xs := []) rfl, lstF_ok (xs := [.str "a", .str "ab", .str "longname", .str "x"]) rfl, q1, tupM (sF_L a fs), gc_own (st := st) (k := k) (a := a) (t := [.lst fs]) (low_nv hn)]
end K01

set_option Elab.async false
set_option linter.all false
set_option maxRecDepth 100000
set_option maxHeartbeats 1000000
namespace K01
open PySem PySem.Spec PyProof.Rows L2 Sim Pg
/-! ### drawn webs -/
structure ObjOk (n : Int) (x : PV) : Prop where
  ob : objP n x = true
  hnv : nv 4 x = true
  hpl : pl x = true
  hsz : sz x ≤ 200
  sh : ∃ z fs, x = .tup [.str z, .tup fs] ∧ fs.length ≤ 4 ∧ plainP (.str z) = true ∧ nv 1 (.str z) = true ∧ z.cps.size ≤ 8 ∧ ∀ f ∈ fs, FieldOk n f
theorem szs_le {xs : List PV} {m : Nat} (h : ∀ x ∈ xs, sz x ≤ m) : szs xs ≤ xs.length * (m + 1) := by
  induction xs with
  | nil => simp [szs]
  | cons x xs ih =>
    have h1 := h x (List.mem_cons_self ..)
    have h2 := ih fun y hy => h y (List.mem_cons_of_mem _ hy)
    simp only [szs, List.length_cons, Nat.add_mul, Nat.one_mul]
    omega
theorem table_of {m : Int} {fs : List PV} (h : ∀ x ∈ fs, pairP x = true) (hp : (wordsP fs).Pairwise ltS) (hl : (fs.length : Int) ≤ m) : tableP 0 m (.tup fs) = true := by
  simp only [tableP, ascP, ← up_sort, Bool.and_eq_true, decide_eq_true_eq, List.all_eq_true]
  exact ⟨⟨by omega, hl⟩, h, up_pw.mpr hp⟩
def kinds3 : List PV := [.str "open", .str "frozen", .str "frozen"]
theorem kinds3_ok : ∀ x ∈ kinds3, ∃ z, x = .str z ∧ kindP (.str z) = true ∧ plainP (.str z) = true ∧ Sim.nv 1 (.str z) = true ∧ z.cps.size ≤ 8 := by
  intro x hx
  simp only [kinds3, List.mem_cons, List.not_mem_nil, or_false] at hx
  rcases hx with rfl | rfl | rfl
  · exact ⟨"open", rfl, by decide +kernel, by decide +kernel, by decide +kernel, by decide +kernel⟩
  · exact ⟨"frozen", rfl, by decide +kernel, by decide +kernel, by decide +kernel, by decide +kernel⟩
  · exact ⟨"frozen", rfl, by decide +kernel, by decide +kernel, by decide +kernel, by decide +kernel⟩
theorem obj_of {n : Int} {x : PV} {fs : List PV} (hx : x ∈ kinds3) (hf : ∀ f ∈ fs, FieldOk n f) (hp : (wordsP fs).Pairwise ltS) (hl : fs.length ≤ 4) : ObjOk n (.tup [x, .tup fs]) := by
  obtain ⟨z, rfl, k1, k2, k3, k4⟩ := kinds3_ok x hx
  have h1 : Sim.nv 3 (.tup fs) = true := nvs_iff.mpr fun x hx => (hf x hx).nv
  have h2 : Sim.pl (.tup fs) = true := pls_iff.mpr fun x hx => (hf x hx).pl
  have h3 := szs_le fun x hx => (hf x hx).sz
  have h4 : fs.length * (20 + 1) ≤ 4 * 21 := Nat.mul_le_mul_right _ hl
  refine ⟨?_, ?_, ?_, ?_, z, fs, rfl, hl, k2, k3, k4, hf⟩
  · simp only [objP, k1, Bool.true_and, Bool.and_eq_true, items, List.all_eq_true]
    exact ⟨table_of (fun x hx => (hf x hx).pr) hp (by omega), fun x hx => (hf x hx).vl⟩
  · show (Sim.nv 3 (.str z) && (Sim.nv 3 (.tup fs) && true)) = true
    rw [nv_mono (by decide) k3, h1]; rfl
  · show (true && (Sim.pl (.tup fs) && true)) = true
    rw [h2]; rfl
  · simp only [Sim.sz, szs]; omega
theorem neqM {st : Sto} {L : Nat} {xs : List PV} {n : Nat} (h0 : st[L]? = some (.lst xs)) (hn : n ≤ 50) (h1 : nvs n xs = true) (h2 : pls xs = true) : sEqn true (.ref L) (.lst []) st = .ok (.bl (!decide (xs = []))) st := by
  obtain ⟨d, q1, q2⟩ := plain_shaped (n := n + 1) (x := .lst xs) (by omega) (by simpa only [nv] using h1) (by simpa only [pl] using h2)
  simp only [toD, Option.map_eq_some_iff] at q1
  obtain ⟨ds, q3, rfl⟩ := q1
  have f : flatEq (.ref L) (.lst []) = none := rfl
  have e1 : toDS st (.ref L) = some (.list ds) := by simp only [toDS, h0, q3, Option.map_some]
  have e2 : toDS st (.lst []) = some (.list []) := rfl
  have e3 : SeqAt.shaped (.list []) = true := by decide +kernel
  have e4 : PyData.eqv (.list ds) (.list []) = decide (ds = []) := by cases ds <;> simp [PyData.eqv, PyData.eqvAll]
  unfold sEqn
  simp only [f, e1, e2, q2, e3, Bool.and_self, if_true, e4, toDs_nil q3]
def words6 : List Str := ["a", "ab", "ca", "read", "set", "zebra"]
theorem words6_up : words6.Pairwise ltS := up_pw.mp (by decide +kernel)
theorem words6_ok : ∀ w ∈ words6, wordP (.str w) = true ∧ nv 1 (.str w) = true ∧ w.cps.size ≤ 8 := by
  intro w hw
  have h : words6.all (fun w => wordP (.str w) && (nv 1 (.str w) && decide (w.cps.size ≤ 8))) = true := by decide +kernel
  have := List.all_eq_true.mp h w hw
  simpa only [Bool.and_eq_true, decide_eq_true_eq] using this
theorem cutTo (xs : List PV) (m : Nat) : cutP xs none (some (m : Int)) = xs.take m := by
  unfold cutP
  rw [HT.sIx_none, HT.sIx_nat, List.drop_zero, Nat.sub_zero]
  rcases Nat.le_total m xs.length with h | h
  · rw [Nat.min_eq_left h]
  · rw [Nat.min_eq_right h, List.take_length, List.take_of_length_le h]
structure NameOk (n : Int) (x : PV) : Prop where
  is : ∃ w d, x = .tup [.str w, .int d] ∧ wordP (.str w) = true ∧ Sim.nv 1 (.str w) = true ∧ w.cps.size ≤ 8 ∧ 0 ≤ d ∧ d < n
structure WebOk (xs ys : List PV) : Prop where
  pos : 1 ≤ xs.length
  most : xs.length ≤ 30
  os : ∀ o ∈ xs, ObjOk xs.length o
  ns : ∀ y ∈ ys, NameOk xs.length y
  up : (wordsP ys).Pairwise ltS
  n1 : 1 ≤ ys.length
  n6 : ys.length ≤ 6
theorem web_data {os ns : List PV} {m : Int} (hm : m ≤ 30) (ho : ∀ o ∈ os, ObjOk m o) (hn : ∀ y ∈ ns, NameOk m y) : Sim.nv 6 (.tup [.tup os, .tup ns]) = true ∧ Sim.pl (.tup [.tup os, .tup ns]) = true := by
  have h1 : Sim.nv 5 (.tup os) = true := nvs_iff.mpr fun x hx => (ho x hx).hnv
  have h2 : Sim.nv 5 (.tup ns) = true := nvs_iff.mpr fun x hx => by
    obtain ⟨w, d, rfl, _, q, _, q1, q2⟩ := (hn x hx).is
    show (Sim.nv 3 (.str w) && (Sim.nv 3 (.int d) && true)) = true
    rw [nv_mono (by decide) q, int_nv (by omega) (by omega)]; rfl
  have h3 : Sim.pl (.tup os) = true := pls_iff.mpr fun x hx => (ho x hx).hpl
  have h4 : Sim.pl (.tup ns) = true := pls_iff.mpr fun x hx => by
    obtain ⟨w, d, rfl, _⟩ := (hn x hx).is
    rfl
  refine ⟨?_, ?_⟩
  · show (Sim.nv 5 (.tup os) && (Sim.nv 5 (.tup ns) && true)) = true
    rw [h1, h2]; rfl
  · show (Sim.pl (.tup os) && (Sim.pl (.tup ns) && true)) = true
    rw [h3, h4]; rfl
theorem zip_names {m : Int} : ∀ {ws : List Str} {ns : List PV}, ns.length = (ws.map PV.str).length → (∀ p ∈ (ws.map PV.str).zip ns, ∃ d : Int, p.2 = .tup [p.1, .int d] ∧ 0 ≤ d ∧ d < m) →
    wordsP ns = ws ∧ ∀ y ∈ ns, ∃ w ∈ ws, ∃ d : Int, y = .tup [.str w, .int d] ∧ 0 ≤ d ∧ d < m
  | [], [], _, _ => ⟨rfl, nofun⟩
  | [], _ :: _, h, _ => by simp at h
  | _ :: _, [], h, _ => by simp at h
  | w :: ws, y :: ns, h, hp => by
    simp only [List.map_cons, List.length_cons, Nat.add_right_cancel_iff] at h
    simp only [List.map_cons, List.zip_cons_cons, List.forall_mem_cons] at hp
    obtain ⟨⟨d, e, h1, h2⟩, hp⟩ := hp
    obtain ⟨q1, q2⟩ := zip_names h hp
    have e : y = .tup [.str w, .int d] := e
    subst e
    refine ⟨by show txtP (fst _) :: wordsP ns = _; rw [q1]; rfl, fun z hz => ?_⟩
    rcases List.mem_cons.mp hz with rfl | hz
    · exact ⟨w, List.mem_cons_self .., d, rfl, h1, h2⟩
    · obtain ⟨u, hu, r⟩ := q2 z hz
      exact ⟨u, List.mem_cons_of_mem _ hu, r⟩
theorem addI (a b : Int) (st : Sto) : sAdd (.int a) (.int b) st = .ok (.int (a + b)) st := rfl
theorem web_sp {st : Sto} {k : Nat} {n : Int} (hk : ∃ a : Int, st[k]? = some (.lst [.int a])) (h0 : 0 < n) (h1 : n ≤ 30) :
    ∃ os ns a, f__law_web [.ref k, .int n] st = .ok (.tup [.tup os, .tup ns]) (st.set k (.lst [.int a])) ∧ WebOk os ns := by
  obtain ⟨a0, ha0⟩ := hk
  have hkl := in_st ha0
  obtain ⟨d0, a1, t1, t2, t3⟩ := take_sp (n := n) ⟨a0, ha0⟩ h0 (by omega)
  obtain ⟨m, hm⟩ : ∃ m : Int, 1 + d0 = m := ⟨_, rfl⟩
  have hm1 : 1 ≤ m := by omega
  have hm30 : m ≤ 30 := by omega
  unfold f__law_web m__law_web
  have loop := for_inv (t := .one 4) (body := (cIf (bAnd (bVal (mBin sNe (mVar 3) (mApp sLstF mNil))) (bVal (mBin sEq (mApp (fnN 2 f__law_take) (mCons (mVar 0) (mCons (mC (.int 4)) mNil))) (mC (.int 0)))))
    (cExpr (mAppend (mVar 3) (mBin sIx (mVar 3) (mApp (fnN 2 f__law_take) (mCons (mVar 0) (mCons (mApp sLen (mCons (mVar 3) mNil)) mNil))))))
    (cExpr (mAppend (mVar 3) (mApp sTup (mCons (mBin sIx (mApp sLstF (mCons (mC (.str "open")) (mCons (mC (.str "frozen")) (mCons (mC (.str "frozen")) mNil)))) (mApp (fnN 2 f__law_take) (mCons (mVar 0) (mCons (mC (.int 3)) mNil)))) (mCons (mApp (fnN 2 f__law_fields) (mCons (mVar 0) (mCons (mVar 2) mNil))) mNil)))))))
    (fun rem e s => ∃ os w a, e = [some (.ref k), some (.int n), some (.int m), some (.ref st.length), w, none, none] ∧ s = sF st k a os ∧ (∀ x ∈ os, ObjOk m x) ∧ os.length + rem.length = m.toNat)
    (by
      rintro x xs e s ⟨os, w, a, rfl, rfl, ho, hl⟩
      simp only [List.length_cons] at hl
      refine ⟨_, rfl, ?_⟩
      have nn := neqM (sF_L (st := st) (k := k) a os) (n := 4) (by decide) (nvs_iff.mpr fun x hx => (ho x hx).hnv) (pls_iff.mpr fun x hx => (ho x hx).hpl)
      have hnew : ∀ b (s' : Sto), s' = sF st k b os → ∃ e2 s2, cExpr (mAppend (mVar 3) (mApp sTup (mCons (mBin sIx (mApp sLstF (mCons (mC (.str "open")) (mCons (mC (.str "frozen")) (mCons (mC (.str "frozen")) mNil)))) (mApp (fnN 2 f__law_take) (mCons (mVar 0) (mCons (mC (.int 3)) mNil)))) (mCons (mApp (fnN 2 f__law_fields) (mCons (mVar 0) (mCons (mVar 2) mNil))) mNil))))
            [some (.ref k), some (.int n), some (.int m), some (.ref st.length), some x, none, none] s' = .nx e2 s2 ∧ (∃ os w a, e2 = [some (.ref k), some (.int n), some (.int m), some (.ref st.length), w, none, none] ∧ s2 = sF st k a os ∧ (∀ x ∈ os, ObjOk m x) ∧ os.length + xs.length = m.toNat) := by
        rintro b s' rfl
        obtain ⟨d, c, r1, r2, r3⟩ := take_sF hkl b os (n := 3) (by decide) (by decide)
        obtain ⟨i, rfl⟩ := Int.eq_ofNat_of_zero_le r2
        have hi : i < kinds3.length := by show i < 3; omega
        have hix := fun s => ixLF (xs := kinds3) (i := i) hi s
        obtain ⟨fs, a2, f1, f2, f3, f4⟩ := fields_sp (st := sF st k c os) (k := k) (n := m) ⟨c, sF_k hkl c os⟩ (by omega) (by omega)
        rw [sF_set hkl] at f1
        refine ⟨_, _, ?_, os ++ [.tup [kinds3[i]'hi, .tup fs]], some x, a2, rfl, rfl, ?_, ?_⟩
        · have e0 : sLstF [.str "open", .str "frozen", .str "frozen"] (sF st k b os) = .ok (.lst kinds3) (sF st k b os) := rfl
          simp_arith! [mAppend, isl_ok (sF_L b os), e0, r1, hix, f1, tup_ok (xs := [kinds3[i]'hi, .tup fs]) rfl, app_sF a2 (fs := os) (by omega)]
        · intro y hy
          rcases List.mem_append.mp hy with hy | hy
          · exact ho y hy
          · rw [List.mem_singleton.mp hy]
            exact obj_of (List.getElem_mem hi) f2 f3 f4
        · simp only [List.length_append, List.length_cons, List.length_nil]; omega
      rcases Bool.eq_false_or_eq_true (decide (os = [])) with hz | hz
      · obtain ⟨e2, s2, q1, q2⟩ := hnew a _ rfl
        refine ⟨e2, s2, ?_, q2⟩
        rw [← q1]
        exact cIf_f (by simp_arith! [lstF_ok (xs := []) rfl, nn, hz])
      · obtain ⟨d, b, q1, q2, q3⟩ := take_sF hkl a os (n := 4) (by decide) (by decide)
        rcases Bool.eq_false_or_eq_true (decide (d = 0)) with hd | hd
        · have hpos : 0 < os.length := by
            cases os with
            | nil => simp at hz
            | cons y ys => simp
          obtain ⟨d2, b2, r1, r2, r3⟩ := take_sF hkl b os (n := (os.length : Int)) (by omega) (by omega)
          obtain ⟨i, rfl⟩ := Int.eq_ofNat_of_zero_le r2
          have hi : i < os.length := by omega
          have hix := ixRM (sF_L (st := st) (k := k) b2 os) hi
          refine ⟨[some (.ref k), some (.int n), some (.int m), some (.ref st.length), some x, none, none], _, ?_, os ++ [os[i]], some x, b2, rfl, rfl, ?_, ?_⟩
          · refine (cIf_t (s := sF st k b os) (by simp_arith! [lstF_ok (xs := []) rfl, nn, hz, q1, eq_eq_int, hd])).trans ?_
            simp_arith! [mAppend, isl_ok (sF_L b os), lenM (sF_L b os), r1, hix, app_sF b2 (fs := os) (by omega)]
          · intro y hy
            rcases List.mem_append.mp hy with hy | hy
            · exact ho y hy
            · rw [List.mem_singleton.mp hy]
              exact ho _ (List.getElem_mem hi)
          · simp only [List.length_append, List.length_cons, List.length_nil]; omega
        · obtain ⟨e2, s2, r1, r2⟩ := hnew b _ rfl
          refine ⟨e2, s2, ?_, r2⟩
          rw [← r1]
          exact cIf_f (by simp_arith! [lstF_ok (xs := []) rfl, nn, hz, q1, eq_eq_int, hd]))
    (xs := rangeP 0 m.toNat) (e := [some (.ref k), some (.int n), some (.int m), some (.ref st.length), none, none, none]) (s := sF st k a1 [])
    ⟨[], none, a1, rfl, rfl, by simp, by simp [rangeP]⟩
  obtain ⟨e, s, l1, os, w, a, rfl, rfl, ho, hl⟩ := loop
  have hlen : os.length = m.toNat := by simpa using hl
  have hmo : (os.length : Int) = m := by omega
  obtain ⟨d6, a6, r1, r2, r3⟩ := take_sF hkl a os (n := 6) (by decide) (by decide)
  obtain ⟨j, rfl⟩ := Int.eq_ofNat_of_zero_le r2
  have hj : j < 6 := by omega
  have hcut : ∀ s, sSlice (.lst (words6.map .str)) none (some (1 + (j : Int))) s = .ok (.lst ((words6.take (1 + j)).map .str)) s := by
    intro s
    have := cutTo (words6.map .str) (1 + j)
    simp only [sSlice, asL]
    rw [show (1 + (j : Int)) = ((1 + j : Nat) : Int) by omega, this, List.map_take]
  have comp := lc_inv (t := .one 6) (m := mApp sTup (mCons (mVar 6) (mCons (mApp (fnN 2 f__law_take) (mCons (mVar 0) (mCons (mVar 2) mNil))) mNil)))
    (env0 := [some (.ref k), some (.int n), some (.int m), some (.ref st.length), w, some (.lst ((words6.take (1 + j)).map .str)), none])
    (fun x y => ∃ d : Int, y = .tup [x, .int d] ∧ 0 ≤ d ∧ d < m) (fun s => ∃ a, s = sF st k a os) (xs := (words6.take (1 + j)).map .str) (s := sF st k a6 os)
    (by
      rintro x hx s ⟨b, rfl⟩
      obtain ⟨d, c, q1, q2, q3⟩ := take_sF hkl b os (n := m) (by omega) (by omega)
      refine ⟨_, rfl, .tup [x, .int d], sF st k c os, ?_, ⟨d, rfl, q2, q3⟩, c, rfl⟩
      simp_arith! [q1, tup_ok (xs := [x, .int d]) rfl]) ⟨a6, rfl⟩
  obtain ⟨ns, s2, c1, ⟨a7, rfl⟩, c2, c3⟩ := comp
  have hf6 : fitL ((words6.take (1 + j)).map PV.str) = true := by
    refine decide_eq_true ?_
    have : words6.length = 6 := rfl
    rw [List.length_map, List.length_take]
    omega
  obtain ⟨hw, hn0⟩ := zip_names c2 c3
  have hnames : ∀ y ∈ ns, NameOk m y := fun y hy => by
    obtain ⟨u, hu, d, e, q1, q2⟩ := hn0 y hy
    obtain ⟨u1, u2, u3⟩ := words6_ok u (List.mem_of_mem_take hu)
    exact ⟨u, d, e, u1, u2, u3, q1, q2⟩
  have e6 : sLstF [.str "a", .str "ab", .str "ca", .str "read", .str "set", .str "zebra"] (sF st k a os) = .ok (.lst (words6.map .str)) (sF st k a os) := rfl
  refine ⟨os, ns, a7, ?_, ?_⟩
  · have hrange : (decide (-2 ^ 62 ≤ m) && decide (m < 2 ^ 62)) = true := by
      rw [Bool.and_eq_true, decide_eq_true_eq, decide_eq_true_eq]
      omega
    have hnv := (web_data hm30 ho hnames).1
    have hT : ∀ s, sTuple [.lst ns] s = .ok (.tup ns) s := fun _ => rfl
    have hadd : ∀ s : Sto, sAdd (.int 1) (.int d0) s = .ok (.int m) s := fun s => by rw [← hm]; exact addI 1 d0 s
    simp_arith! [t1, hadd, addI 1 (j : Int), lstM_ok (xs := []) rfl, List.length_set, mRange1, hrange, l1, e6, mSlice, oNone, oSome, r1, hcut, tupM (sF_L a6 os), mLc, hf6, wipeL, c1, hT, tup_ok (xs := [.tup os, .tup ns]) rfl, gc_own (st := st) (k := k) (a := a7) (t := [.lst os]) (low_nv hnv)]
  · refine ⟨by omega, by omega, by rw [hmo]; exact ho, by rw [hmo]; exact hnames, ?_, ?_, ?_⟩
    · rw [hw]; exact words6_up.sublist (List.take_sublist ..)
    · rw [c2, List.length_map, List.length_take]; have : words6.length = 6 := rfl; omega
    · rw [c2, List.length_map, List.length_take]; have : words6.length = 6 := rfl; omega
end K01

set_option Elab.async false
set_option linter.all false
set_option maxRecDepth 100000
set_option maxHeartbeats 1000000
namespace K01
open PySem PySem.Spec PyProof.Rows L2 Sim Pg
/-! ### what is handed in -/
structure ObN (o : PV) : Prop where
  v : nv 6 o = true
  s : sz o ≤ 1000
  p : ∀ k f, o = .tup [k, f] → plainP k = true
structure HdN (y : PV) : Prop where
  v : nv 6 y = true
  p : pl y = true
  s : sz y ≤ 100
theorem plainP_of {n : Nat} {x : PV} (hn : n ≤ 64) (h : nv n x = true) (hp : pl x = true) : plainP x = true := by
  obtain ⟨d, q1, q2⟩ := plain_shaped hn h hp
  unfold plainP
  rw [q1]; exact q2
theorem nice_web {os ns : List PV} (ho : ∀ o ∈ os, ObN o) (hn : ∀ y ∈ ns, HdN y) (h1 : os.length ≤ 100) (h2 : ns.length ≤ 100) : Nice (.tup [.tup os, .tup ns]) := by
  have v1 : nv 7 (.tup os) = true := nvs_iff.mpr fun x hx => (ho x hx).v
  have v2 : nv 7 (.tup ns) = true := nvs_iff.mpr fun x hx => (hn x hx).v
  have p2 : pl (.tup ns) = true := pls_iff.mpr fun x hx => (hn x hx).p
  have s1 := szs_le fun x hx => (ho x hx).s
  have s2 := szs_le fun x hx => (hn x hx).s
  have l1 : os.length * (1000 + 1) ≤ 100 * 1001 := Nat.mul_le_mul_right _ h1
  have l2 : ns.length * (100 + 1) ≤ 100 * 101 := Nat.mul_le_mul_right _ h2
  refine ⟨?_, ?_, ?_, ?_⟩
  · show (nv 7 (.tup os) && (nv 7 (.tup ns) && true)) = true
    rw [v1, v2]; rfl
  · have e : (2 : Nat) ^ 20 = 1048576 := by decide
    simp only [sz, szs]; omega
  · simp only [kindsOk, List.all_eq_true]
    intro o hm
    split
    · exact (ho _ hm).p _ _ rfl
    · rfl
  · simp only [namesOk, plainP_of (by decide) v2 p2, Bool.or_true]
theorem ObjOk.n {n : Int} {o : PV} (h : ObjOk n o) : ObN o := by
  refine ⟨nv_mono (by decide) h.hnv, by have := h.hsz; omega, fun k f e => ?_⟩
  obtain ⟨z, fs, e2, _, q, _⟩ := h.sh
  rw [e] at e2
  simp only [PV.tup.injEq, List.cons.injEq] at e2
  rw [e2.1]; exact q
theorem name_hd {w : Str} {d : Int} (h1 : nv 1 (.str w) = true) (h2 : w.cps.size ≤ 8) (h3 : 0 ≤ d) (h4 : d ≤ 1000) : HdN (.tup [.str w, .int d]) := by
  refine ⟨?_, rfl, by simp only [sz, szs]; omega⟩
  show (nv 5 (.str w) && (nv 5 (.int d) && true)) = true
  rw [nv_mono (by decide) h1, int_nv (by omega) (by omega)]; rfl
theorem NameOk.n {n : Int} {y : PV} (h : NameOk n y) (hn : n ≤ 1000) : HdN y := by
  obtain ⟨w, d, rfl, _, q1, q2, q3, q4⟩ := h.is
  exact name_hd q1 q2 q3 (by omega)
theorem web_nice {os ns : List PV} (h : WebOk os ns) : Nice (.tup [.tup os, .tup ns]) :=
  nice_web (fun o ho => (h.os o ho).n) (fun y hy => (h.ns y hy).n (by have := h.most; omega)) (by have := h.most; omega) (by have := h.n6; omega)
theorem web_is {os ns : List PV} (h : WebOk os ns) : webP (.tup [.tup os, .tup ns]) = true := by
  have h1 := h.pos
  have h2 := h.most
  have t : tableP 1 6 (.tup ns) = true := by
    have := h.n1
    have := h.n6
    have hp : ∀ x ∈ ns, pairP x = true := fun x hx => by
      obtain ⟨w, d, rfl, q, _⟩ := (h.ns x hx).is
      exact q
    rw [table0, table_of hp h.up (by omega)]
    cases ns with
    | nil => exact absurd h.n1 (by decide)
    | cons a b => rfl
  simp only [webP, namesP, t, items, Bool.true_and, Bool.and_eq_true, decide_eq_true_eq, List.all_eq_true]
  refine ⟨⟨by omega, by omega⟩, fun x hx => ?_, fun o ho => (h.os o ho).ob⟩
  obtain ⟨w, d, rfl, _, _, _, q3, q4⟩ := (h.ns x hx).is
  show numP os.length (.int d) = true
  simp only [numP, Bool.and_eq_true, decide_eq_true_eq]
  omega
/-! ### a web bent in one place -/
def oddsL (z : Int) : List PV := [.non, .bl true, .tup [], .tup [.int 0], .tup [.int 0, .int 0], .int 1000000000, .str "x", .tup [.int z], .tup [.int (z - 1)], .int (-999999999)]
structure OddN (y : PV) : Prop where
  v : nv 2 y = true
  p : pl y = true
  s : sz y ≤ 5
theorem odds_ok {z : Int} (h0 : 0 ≤ z) (h1 : z ≤ 1000) : ∀ y ∈ oddsL z, OddN y := by
  have hz : nv 1 (.int z) = true := int_nv (by omega) (by omega)
  have hz2 : nv 1 (.int (z - 1)) = true := int_nv (by omega) (by omega)
  intro y hy
  simp only [oddsL, List.mem_cons, List.not_mem_nil, or_false] at hy
  rcases hy with rfl | rfl | rfl | rfl | rfl | rfl | rfl | rfl | rfl | rfl
  · exact ⟨rfl, rfl, by decide⟩
  · exact ⟨rfl, rfl, by decide⟩
  · exact ⟨rfl, rfl, by decide⟩
  · exact ⟨by decide +kernel, rfl, by decide⟩
  · exact ⟨by decide +kernel, rfl, by decide⟩
  · exact ⟨by decide +kernel, rfl, by decide⟩
  · exact ⟨by decide +kernel, rfl, by decide +kernel⟩
  · exact ⟨by show (nv 1 (.int z) && true) = true; rw [hz]; rfl, rfl, by simp [sz, szs]⟩
  · exact ⟨by show (nv 1 (.int (z - 1)) && true) = true; rw [hz2]; rfl, rfl, by simp [sz, szs]⟩
  · exact ⟨by decide +kernel, rfl, by decide⟩
theorem pow9 (st : Sto) : sPow (.int 10) (.int 9) st = .ok (.int 1000000000) st := rfl
theorem addL {xs ys : List PV} (h : fitL (xs ++ ys) = true) (st : Sto) : sAdd (.lst xs) (.lst ys) st = .ok (.lst (xs ++ ys)) st := by
  simp only [sAdd, asM, h, if_true]
theorem addT {xs ys : List PV} (h : fitL (xs ++ ys) = true) (st : Sto) : sAdd (.tup xs) (.tup ys) st = .ok (.tup (xs ++ ys)) st := by
  simp only [sAdd, h, if_true]
theorem fit_le {xs : List PV} (h : xs.length ≤ 1000) : fitL xs = true := decide_eq_true (by omega)
theorem obj_new {z : Str} {fs : List PV} (h1 : nv 1 (.str z) = true) (h2 : z.cps.size ≤ 8) (h3 : plainP (.str z) = true) (hf : ∀ f ∈ fs, nv 4 f = true ∧ sz f ≤ 40) (hl : fs.length ≤ 6) : ObN (.tup [.str z, .tup fs]) := by
  have v : nv 5 (.tup fs) = true := nvs_iff.mpr fun x hx => (hf x hx).1
  have s := szs_le fun x hx => (hf x hx).2
  have l : fs.length * (40 + 1) ≤ 6 * 41 := Nat.mul_le_mul_right _ hl
  refine ⟨?_, ?_, ?_⟩
  · show (nv 5 (.str z) && (nv 5 (.tup fs) && true)) = true
    rw [nv_mono (by decide) h1, v]; rfl
  · simp only [sz, szs]; omega
  · intro k f e
    simp only [PV.tup.injEq, List.cons.injEq] at e
    rw [← e.1]; exact h3
/-- the store, the things and the heads after a bend -/
structure Bent (st : Sto) (k : Nat) (env : Lo) (s : Sto) : Prop where
  is : ∃ a os hs, s = sF st k a os ∧ env[5]? = some (some (.ref st.length)) ∧ env[6]? = some (some (.lst hs)) ∧ (∀ o ∈ os, ObN o) ∧ (∀ y ∈ hs, HdN y) ∧ os.length ≤ 31 ∧ hs.length ≤ 8
theorem setI {st : Sto} {L : Nat} {xs : List PV} (h : st[L]? = some (.lst xs)) {i : Nat} (hi : i < xs.length) (v : PV) : sSetIx (.ref L) (.int i) v st = .ok () (st.set L (.lst (xs.set i v))) := by
  have e : ixN xs.length (i : Int) = some i := by
    unfold ixN
    rw [if_pos (by omega), if_pos (by omega)]
    simp
  simp only [sSetIx, h, e]
theorem popI {st : Sto} {L : Nat} {xs : List PV} (h : st[L]? = some (.lst xs)) {i : Nat} (hi : i < xs.length) (hl : xs.length ≤ 1000) : sPopAt (.ref L) (.int i) st = .ok xs[i] (st.set L (.lst (xs.eraseIdx i))) := by
  have e : seqIndex? (i : Int) xs.length = some i := by
    unfold seqIndex?
    have h0 : ¬ ((i : Int) < 0) := by omega
    simp only [h0, if_false]
    rw [if_pos (by rw [Bool.and_eq_true, decide_eq_true_eq, decide_eq_true_eq]; omega)]
    simp
  have b : (decide (-(2 ^ 63) ≤ (i : Int)) && decide ((i : Int) < 2 ^ 63)) = true := by
    rw [Bool.and_eq_true, decide_eq_true_eq, decide_eq_true_eq]
    omega
  simp only [sPopAt, h, e, List.getElem?_eq_getElem hi, b, if_true]
theorem mem_set {xs : List PV} {i : Nat} {v y : PV} (h : y ∈ xs.set i v) : y ∈ xs ∨ y = v := List.mem_or_eq_of_mem_set h
theorem bent_sp {st : Sto} {k : Nat} {os ns : List PV} (hk : ∃ a : Int, st[k]? = some (.lst [.int a])) (W : WebOk os ns) :
    ∃ y a, f__law_bent [.ref k, .tup [.tup os, .tup ns]] st = .ok y (st.set k (.lst [.int a])) ∧ Nice y := by
  obtain ⟨a0, ha0⟩ := hk
  have hkl := in_st ha0
  have w1 := W.pos
  have w2 := W.most
  have w3 := W.n6
  obtain ⟨z, hz⟩ : ∃ z : Int, (os.length : Int) = z := ⟨_, rfl⟩
  have hz0 : 1 ≤ z := by omega
  have hz1 : z ≤ 30 := by omega
  have s0 : st ++ [.lst os] = sF st k a0 os := by rw [sF, set_same ha0]
  obtain ⟨sp, a1, t1, t2, t3⟩ := take_sF hkl a0 os (n := z) (by omega) (by omega)
  obtain ⟨i, hi⟩ := Int.eq_ofNat_of_zero_le t2
  have hil : i < os.length := by omega
  have hix := ixRM (sF_L (st := st) (k := k) a1 os) hil
  rw [← hi] at hix
  obtain ⟨kz, fs, ek, k1, k2, k3, k4, k5⟩ := (W.os _ (List.getElem_mem hil)).sh
  rw [ek] at hix
  obtain ⟨od, a2, u1, u2, u3⟩ := take_sF hkl a1 os (n := 10) (by decide) (by decide)
  obtain ⟨j, hj⟩ := Int.eq_ofNat_of_zero_le u2
  have hjl : j < (oddsL z).length := by show j < 10; omega
  have hjx := fun s => ixLF (xs := oddsL z) hjl s
  have hodd := odds_ok (z := z) (by omega) (by omega) _ (List.getElem_mem hjl)
  obtain ⟨odd, ho⟩ : ∃ y, (oddsL z)[j] = y := ⟨_, rfl⟩
  rw [ho] at hodd hjx
  rw [← hj] at hjx
  obtain ⟨wy, a3, v1, v2, v3⟩ := take_sF hkl a2 os (n := 6) (by decide) (by decide)
  unfold f__law_bent m__law_bent
  have chain : ∃ e s, (cIf (bVal (mBin sEq (mVar 4) (mC (.int 0))))
      (cSetIx (mVar 5) (mVar 2) (mApp sTup (mCons (mVar 7) (mCons (mBin sAdd (mVar 8) (mApp sTup (mCons (mApp sTup (mCons (mC (.str "zzz")) (mCons (mVar 3) mNil))) mNil))) mNil))))
      (cIf (bVal (mBin sEq (mVar 4) (mC (.int 1))))
      (cSetIx (mVar 5) (mVar 2) (mApp sTup (mCons (mVar 7) (mCons (mApp sTuple (mCons (mLc (mIter (mVar 8)) (.many [9, 10]) bYes (mApp sTup (mCons (mVar 9) (mCons (mVar 3) mNil))) [9, 10]) mNil)) mNil))))
      (cIf (bVal (mBin sEq (mVar 4) (mC (.int 2))))
      (cSetIx (mVar 5) (mVar 2) (mApp sTup (mCons (mVar 7) (mCons (mUn sRev (mVar 8)) mNil))))
      (cIf (bVal (mBin sEq (mVar 4) (mC (.int 3))))
      (cSet (.one 6) (mBin sAdd (mVar 6) (mApp sLstF (mCons (mApp sTup (mCons (mC (.str "e")) (mCons (mApp (fnN 2 f__law_take) (mCons (mVar 0) (mCons (mBin sAdd (mApp sLen (mCons (mVar 5) mNil)) (mC (.int 1))) mNil))) mNil))) mNil))))
      (cIf (bVal (mBin sEq (mVar 4) (mC (.int 4))))
      (cSet (.one 6) (mUn sRev (mVar 6)))
      (cExpr (mPopAt (mVar 5) (mVar 2))))))))
      [some (.ref k), some (.tup [.tup os, .tup ns]), some (.int sp), some odd, some (.int wy), some (.ref st.length), some (.lst ns), some (.str kz), some (.tup fs), none, none] (sF st k a3 os) = .nx e s ∧ Bent st k e s := by
    have hos : ∀ o ∈ os, ObN o := fun o ho => (W.os o ho).n
    have hns : ∀ y ∈ ns, HdN y := fun y hy => (W.ns y hy).n (by omega)
    have hset : ∀ gs : List PV, sSetIx (.ref st.length) (.int sp) (.tup [.str kz, .tup gs]) (sF st k a3 os) = .ok () (sF st k a3 (os.set i (.tup [.str kz, .tup gs]))) := fun gs => by
      rw [hi, setI (sF_L a3 os) hil, sF_app]
    have hput : ∀ gs : List PV, (∀ f ∈ gs, nv 4 f = true ∧ sz f ≤ 40) → gs.length ≤ 6 → ∀ env : Lo, env[5]? = some (some (.ref st.length)) → env[6]? = some (some (.lst ns)) → Bent st k env (sF st k a3 (os.set i (.tup [.str kz, .tup gs]))) := fun gs hg hl env h5 h6 => by
      refine ⟨a3, _, ns, rfl, h5, h6, fun o ho => ?_, hns, by rw [List.length_set]; omega, by omega⟩
      rcases mem_set ho with h | rfl
      · exact hos o h
      · exact obj_new k3 k4 k2 hg hl
    have hfs : ∀ f ∈ fs, nv 4 f = true ∧ sz f ≤ 40 := fun f hf => ⟨nv_mono (by decide) (k5 f hf).nv, by have := (k5 f hf).sz; omega⟩
    have hnew : ∀ w : Str, nv 3 (.str w) = true → w.cps.size ≤ 20 → nv 4 (.tup [.str w, odd]) = true ∧ sz (.tup [.str w, odd]) ≤ 40 := fun w h1 h2 => by
      refine ⟨?_, ?_⟩
      · show (nv 3 (.str w) && (nv 3 odd && true)) = true
        rw [h1, nv_mono (by decide) hodd.v]; rfl
      · have := hodd.s
        simp only [sz, szs]; omega
    rcases Bool.eq_false_or_eq_true (decide (wy = 0)) with c0 | c0
    · refine ⟨_, _, (cIf_t (s := sF st k a3 os) (by simp_arith! [eq_eq_int, c0])).trans ?_, hput (fs ++ [.tup [.str "zzz", odd]]) ?_ ?_ [some (.ref k), some (.tup [.tup os, .tup ns]), some (.int sp), some odd, some (.int wy), some (.ref st.length), some (.lst ns), some (.str kz), some (.tup fs), none, none] rfl rfl⟩
      · simp_arith! [cSetIx, tup_ok (xs := [.str "zzz", odd]) rfl, tup_ok (xs := [.tup [.str "zzz", odd]]) rfl, addT (xs := fs) (ys := [.tup [.str "zzz", odd]]) (fit_le (by simp; omega)), tup_ok (xs := [.str kz, .tup (fs ++ [.tup [.str "zzz", odd]])]) rfl, hset]
      · intro f hf
        rcases List.mem_append.mp hf with hf | hf
        · exact hfs f hf
        · rw [List.mem_singleton.mp hf]; exact hnew _ (by decide +kernel) (by decide +kernel)
      · simp; omega
    rw [cIf_f (s := sF st k a3 os) (by simp_arith! [eq_eq_int, c0])]
    rcases Bool.eq_false_or_eq_true (decide (wy = 1)) with c1 | c1
    · have e := lcT_map (it := mIter (mVar 8)) (t := .many [9, 10]) (m := mApp sTup (mCons (mVar 9) (mCons (mVar 3) mNil))) (vs := [9, 10])
        (env := [some (.ref k), some (.tup [.tup os, .tup ns]), some (.int sp), some odd, some (.int wy), some (.ref st.length), some (.lst ns), some (.str kz), some (.tup fs), none, none]) (st := sF st k a3 os) (xs := fs)
        (g := fun f => .tup [fst f, odd]) rfl (fit_le (by omega)) fun x hx => by
          obtain ⟨w, y, rfl, _⟩ := pairP_fst (k5 x hx).pr
          refine ⟨_, rfl, ?_⟩
          simp only [wipeL, setMany]
          simp_arith! [tup_ok (xs := [.str w, odd]) rfl]
          rfl
      have q : ∀ s : Sto, sTuple [.lst (fs.map fun f => .tup [fst f, odd])] s = .ok (.tup (fs.map fun f => .tup [fst f, odd])) s := fun _ => rfl
      refine ⟨_, _, (cIf_t (s := sF st k a3 os) (by simp_arith! [eq_eq_int, c1])).trans ?_, hput (fs.map fun f => .tup [fst f, odd]) ?_ ?_ [some (.ref k), some (.tup [.tup os, .tup ns]), some (.int sp), some odd, some (.int wy), some (.ref st.length), some (.lst ns), some (.str kz), some (.tup fs), none, none] rfl rfl⟩
      · simp_arith! [cSetIx, e, q, tup_ok (xs := [.str kz, .tup (fs.map fun f => .tup [fst f, odd])]) rfl, hset]
      · intro f hf
        obtain ⟨x, hx, rfl⟩ := List.mem_map.mp hf
        obtain ⟨w, y, rfl, hw⟩ := pairP_fst (k5 x hx).pr
        have hw2 : nv 1 (.str w) = true ∧ w.cps.size ≤ 20 := by
          have h1 := (k5 _ hx).nv
          have h2 := (k5 _ hx).sz
          have h3 : (nv 1 (.str w) && (nv 1 y && true)) = true := h1
          rw [Bool.and_eq_true] at h3
          simp only [sz, szs] at h2
          exact ⟨h3.1, by omega⟩
        exact hnew w (nv_mono (by decide) hw2.1) hw2.2
      · simp; omega
    rw [cIf_f (s := sF st k a3 os) (by simp_arith! [eq_eq_int, c1])]
    rcases Bool.eq_false_or_eq_true (decide (wy = 2)) with c2 | c2
    · have q : ∀ s : Sto, sRev (.tup fs) s = .ok (.tup fs.reverse) s := fun _ => rfl
      refine ⟨_, _, (cIf_t (s := sF st k a3 os) (by simp_arith! [eq_eq_int, c2])).trans ?_, hput fs.reverse (fun f hf => hfs f (List.mem_reverse.mp hf)) (by simp; omega) [some (.ref k), some (.tup [.tup os, .tup ns]), some (.int sp), some odd, some (.int wy), some (.ref st.length), some (.lst ns), some (.str kz), some (.tup fs), none, none] rfl rfl⟩
      simp_arith! [cSetIx, q, tup_ok (xs := [.str kz, .tup fs.reverse]) rfl, hset]
    rw [cIf_f (s := sF st k a3 os) (by simp_arith! [eq_eq_int, c2])]
    rcases Bool.eq_false_or_eq_true (decide (wy = 3)) with c3 | c3
    · obtain ⟨d, a4, r1, r2, r3⟩ := take_sF hkl a3 os (n := z + 1) (by omega) (by omega)
      have q6 : sLen [.ref st.length] (sF st k a3 os) = .ok (.int z) (sF st k a3 os) := by rw [lenM (sF_L a3 os), hz]
      refine ⟨[some (.ref k), some (.tup [.tup os, .tup ns]), some (.int sp), some odd, some (.int wy), some (.ref st.length), some (.lst (ns ++ [.tup [.str "e", .int d]])), some (.str kz), some (.tup fs), none, none], sF st k a4 os,
        (cIf_t (s := sF st k a3 os) (by simp_arith! [eq_eq_int, c3])).trans ?_, a4, os, ns ++ [.tup [.str "e", .int d]], rfl, rfl, rfl, hos, ?_, by omega, ?_⟩
      · simp_arith! [q6, addI z 1, r1, tup_ok (xs := [.str "e", .int d]) rfl, lstF_ok (xs := [.tup [.str "e", .int d]]) rfl, addL (xs := ns) (ys := [.tup [.str "e", .int d]]) (fit_le (by simp; omega))]
      · intro y hy
        rcases List.mem_append.mp hy with hy | hy
        · exact hns y hy
        · rw [List.mem_singleton.mp hy]; exact name_hd (by decide +kernel) (by decide +kernel) r2 (by omega)
      · simp; omega
    rw [cIf_f (s := sF st k a3 os) (by simp_arith! [eq_eq_int, c3])]
    rcases Bool.eq_false_or_eq_true (decide (wy = 4)) with c4 | c4
    · have q : ∀ s : Sto, sRev (.lst ns) s = .ok (.lst ns.reverse) s := fun _ => rfl
      refine ⟨[some (.ref k), some (.tup [.tup os, .tup ns]), some (.int sp), some odd, some (.int wy), some (.ref st.length), some (.lst ns.reverse), some (.str kz), some (.tup fs), none, none], sF st k a3 os,
        (cIf_t (s := sF st k a3 os) (by simp_arith! [eq_eq_int, c4])).trans ?_, a3, os, ns.reverse, rfl, rfl, rfl, hos, fun y hy => hns y (List.mem_reverse.mp hy), by omega, by simp; omega⟩
      simp_arith! [q]
    rw [cIf_f (s := sF st k a3 os) (by simp_arith! [eq_eq_int, c4])]
    have q := popI (sF_L (st := st) (k := k) a3 os) hil (by omega)
    rw [← hi, sF_app] at q
    refine ⟨[some (.ref k), some (.tup [.tup os, .tup ns]), some (.int sp), some odd, some (.int wy), some (.ref st.length), some (.lst ns), some (.str kz), some (.tup fs), none, none], _, ?_, a3, os.eraseIdx i, ns, rfl, rfl, rfl, fun o ho => hos o (List.mem_of_mem_eraseIdx ho), hns, ?_, by omega⟩
    · simp_arith! [mPopAt, isl_ok (sF_L a3 os), q]
    · have := List.length_eraseIdx_le os i
      omega
  obtain ⟨e, s, c1, ⟨a, os', hs', rfl, e5, e6, ho', hh', l1, l2⟩⟩ := chain
  have N := nice_web ho' hh' (by omega) (by omega)
  refine ⟨.tup [.tup os', .tup hs'], a, ?_, N⟩
  have q1 : ∀ s : Sto, sListM [.tup os] s = .ok (.ref s.length) (s ++ [.lst os]) := fun _ => rfl
  have q2 : ∀ s : Sto, sListF [.tup ns] s = .ok (.lst ns) s := fun _ => rfl
  have q3 : ∀ s : Sto, sTuple [.lst hs'] s = .ok (.tup hs') s := fun _ => rfl
  have q5 : sLen [.ref st.length] (sF st k a0 os) = .ok (.int z) (sF st k a0 os) := by rw [lenM (sF_L a0 os), hz]
  have q6 : sLen [.ref st.length] (sF st k a1 os) = .ok (.int z) (sF st k a1 os) := by rw [lenM (sF_L a1 os), hz]
  have q7 : ∀ s : Sto, sLstF [.non, .bl true, .tup [], .tup [.int 0], .tup [.int 0, .int 0], .int 1000000000, .str "x", .tup [.int z], .tup [.int (z - 1)]] s = .ok (.lst [.non, .bl true, .tup [], .tup [.int 0], .tup [.int 0, .int 0], .int 1000000000, .str "x", .tup [.int z], .tup [.int (z - 1)]]) s := fun s => lstF_ok rfl s
  have q8 : ∀ s : Sto, sAdd (.lst [.non, .bl true, .tup [], .tup [.int 0], .tup [.int 0, .int 0], .int 1000000000, .str "x", .tup [.int z], .tup [.int (z - 1)]]) (.lst [.int (-999999999)]) s = .ok (.lst (oddsL z)) s := fun s => addL rfl s
  simp_arith! [ix0, ix1, cPar, q1, s0, q2, q5, t1, hix, setMany, tup_ok (xs := []) rfl, tup_ok (xs := [.int 0]) rfl, tup_ok (xs := [.int 0, .int 0]) rfl, pow9, q6, sub_ok, tup_ok (xs := [.int z]) rfl, tup_ok (xs := [.int (z - 1)]) rfl, q7, neg9, lstF_ok (xs := [.int (-999999999)]) rfl, q8, u1, hjx, v1, ↓c1, e5, e6, tupM (sF_L a os'), q3, tup_ok (xs := [.tup os', .tup hs']) rfl, gc_own (st := st) (k := k) (a := a) (t := [.lst os']) (low_nv N.nv)]
end K01

set_option Elab.async false
set_option linter.all false
set_option maxRecDepth 100000
set_option maxHeartbeats 1000000
namespace K01
open PySem PySem.Spec PyProof.Rows L2 Sim Pg
/-! ### webs as such -/
inductive Vl where
  | int (i : Int) | ref (n : Nat)
  deriving DecidableEq
structure Ob where
  kind : Str
  fs : List (Str × Vl)
  deriving DecidableEq
structure Web where
  os : List Ob
  ns : List (Str × Nat)
  deriving DecidableEq
def Vl.pv : Vl → PV
  | .int i => .int i
  | .ref n => .tup [.int (n : Nat)]
def fpv (p : Str × Vl) : PV := .tup [.str p.1, p.2.pv]
def npv (p : Str × Nat) : PV := .tup [.str p.1, .int (p.2 : Nat)]
def Ob.pv (o : Ob) : PV := .tup [.str o.kind, .tup (o.fs.map fpv)]
def Web.pv (w : Web) : PV := .tup [.tup (w.os.map Ob.pv), .tup (w.ns.map npv)]
def Vl.Ok (n : Nat) : Vl → Prop
  | .int i => -999999999 ≤ i ∧ i ≤ 999999999
  | .ref m => m < n
def Wd (z : Str) : Prop := wordP (.str z) = true
structure Ob.Ok (n : Nat) (o : Ob) : Prop where
  kd : o.kind = "open" ∨ o.kind = "frozen"
  f4 : o.fs.length ≤ 4
  up : (o.fs.map (·.1)).Pairwise ltS
  wd : ∀ p ∈ o.fs, Wd p.1
  vl : ∀ p ∈ o.fs, p.2.Ok n
structure Web.Ok (w : Web) : Prop where
  o1 : 1 ≤ w.os.length
  o30 : w.os.length ≤ 30
  ob : ∀ o ∈ w.os, o.Ok w.os.length
  n1 : 1 ≤ w.ns.length
  n6 : w.ns.length ≤ 6
  up : (w.ns.map (·.1)).Pairwise ltS
  wd : ∀ p ∈ w.ns, Wd p.1
  lt : ∀ p ∈ w.ns, p.2 < w.os.length
theorem map_inj {α : Type} {f : α → PV} (h : ∀ a b, f a = f b → a = b) : ∀ {l m : List α}, l.map f = m.map f → l = m
  | [], [], _ => rfl
  | [], _ :: _, e => by simp at e
  | _ :: _, [], e => by simp at e
  | a :: l, b :: m, e => by
    simp only [List.map_cons, List.cons.injEq] at e
    rw [h a b e.1, map_inj h e.2]
theorem Vl.pv_inj (a b : Vl) (h : a.pv = b.pv) : a = b := by
  cases a with
  | int i => cases b with
    | int j => simp only [Vl.pv, PV.int.injEq] at h; rw [h]
    | ref m => simp [Vl.pv] at h
  | ref n => cases b with
    | int j => simp [Vl.pv] at h
    | ref m =>
      simp only [Vl.pv, PV.tup.injEq, List.cons.injEq, PV.int.injEq, and_true] at h
      rw [Int.ofNat.inj h]
theorem fpv_inj (a b : Str × Vl) (h : fpv a = fpv b) : a = b := by
  simp only [fpv, PV.tup.injEq, List.cons.injEq, PV.str.injEq, and_true] at h
  exact Prod.ext h.1 (Vl.pv_inj _ _ h.2)
theorem npv_inj (a b : Str × Nat) (h : npv a = npv b) : a = b := by
  simp only [npv, PV.tup.injEq, List.cons.injEq, PV.str.injEq, PV.int.injEq, and_true] at h
  exact Prod.ext h.1 (Int.ofNat.inj h.2)
theorem Ob.pv_inj (a b : Ob) (h : a.pv = b.pv) : a = b := by
  obtain ⟨k, f⟩ := a
  obtain ⟨k', f'⟩ := b
  simp only [Ob.pv, PV.tup.injEq, List.cons.injEq, PV.str.injEq, and_true] at h
  rw [h.1, map_inj fpv_inj h.2]
theorem Web.pv_inj (a b : Web) (h : a.pv = b.pv) : a = b := by
  obtain ⟨k, f⟩ := a
  obtain ⟨k', f'⟩ := b
  simp only [Web.pv, PV.tup.injEq, List.cons.injEq, and_true] at h
  rw [map_inj Ob.pv_inj h.1, map_inj npv_inj h.2]
/-! from data to webs -/
theorem num_of {n : Int} {x : PV} (h : numP n x = true) : ∃ m : Nat, x = .int (m : Nat) ∧ (m : Int) < n := by
  unfold numP at h
  split at h
  · rename_i i
    simp only [Bool.and_eq_true, decide_eq_true_eq] at h
    exact ⟨i.toNat, by rw [Int.toNat_of_nonneg h.2.1], by omega⟩
  · cases h
theorem vl_of {n : Nat} {x : PV} (h : valP n x = true) : ∃ v : Vl, x = v.pv ∧ v.Ok n := by
  unfold valP at h
  rcases Bool.or_eq_true_iff.mp h with h | h
  · unfold isIntP at h
    split at h
    · simp only [Bool.and_eq_true, decide_eq_true_eq] at h
      exact ⟨.int _, rfl, h⟩
    · cases h
  · split at h
    · obtain ⟨m, rfl, hm⟩ := num_of h
      exact ⟨.ref m, rfl, by simp only [Vl.Ok]; omega⟩
    · cases h
theorem list_of {α : Type} {P : PV → Prop} {R : α → Prop} {f : α → PV} : ∀ {xs : List PV}, (∀ x ∈ xs, P x) → (∀ x, P x → ∃ a, x = f a ∧ R a) → ∃ as : List α, xs = as.map f ∧ ∀ a ∈ as, R a
  | [], _, _ => ⟨[], rfl, nofun⟩
  | x :: xs, h, g => by
    obtain ⟨a, rfl, ra⟩ := g x (h x (List.mem_cons_self ..))
    obtain ⟨as, rfl, ras⟩ := list_of (xs := xs) (fun y hy => h y (List.mem_cons_of_mem _ hy)) g
    exact ⟨a :: as, rfl, fun b hb => (List.mem_cons.mp hb).elim (fun e => e ▸ ra) (ras b)⟩
theorem table_of2 {lo hi : Int} {x : PV} (h : tableP lo hi x = true) : ∃ xs, x = .tup xs ∧ lo ≤ xs.length ∧ (xs.length : Int) ≤ hi ∧ (∀ y ∈ xs, pairP y = true) ∧ (wordsP xs).Pairwise ltS := by
  unfold tableP at h
  split at h
  · rename_i xs
    simp only [Bool.and_eq_true, decide_eq_true_eq, List.all_eq_true, ascP, ← up_sort] at h
    exact ⟨xs, rfl, h.1.1, h.1.2, h.2.1, up_pw.mp h.2.2⟩
  · cases h
theorem words_fpv (fs : List (Str × Vl)) : wordsP (fs.map fpv) = fs.map (·.1) := by
  simp only [wordsP, List.map_map]; rfl
theorem words_npv (fs : List (Str × Nat)) : wordsP (fs.map npv) = fs.map (·.1) := by
  simp only [wordsP, List.map_map]; rfl
theorem ob_of {n : Nat} {x : PV} (h : objP n x = true) : ∃ o : Ob, x = o.pv ∧ o.Ok n := by
  unfold objP at h
  split at h
  · rename_i k f
    simp only [Bool.and_eq_true] at h
    obtain ⟨hk, ht, hv⟩ := h
    obtain ⟨xs, rfl, _, h4, hp, hu⟩ := table_of2 ht
    simp only [items, List.all_eq_true] at hv
    obtain ⟨fs, rfl, hf⟩ := list_of (α := Str × Vl) (P := fun x => pairP x = true ∧ valP n (snd x) = true) (R := fun p => Wd p.1 ∧ p.2.Ok n) (f := fpv) (xs := xs) (fun x hx => ⟨hp x hx, hv x hx⟩) (by
      rintro x ⟨h1, h2⟩
      obtain ⟨z, y, rfl, hw⟩ := pairP_fst h1
      obtain ⟨v, e, hv⟩ := vl_of h2
      refine ⟨(z, v), ?_, hw, hv⟩
      have e : y = v.pv := e
      rw [e]; rfl)
    rw [words_fpv] at hu
    cases k with
    | str z =>
      simp only [kindP, Bool.or_eq_true, decide_eq_true_eq] at hk
      exact ⟨⟨z, fs⟩, rfl, hk, by rw [List.length_map] at h4; show fs.length ≤ 4; omega, hu, fun p hp => (hf p hp).1, fun p hp => (hf p hp).2⟩
    | _ => exact nomatch hk
  · cases h
theorem web_of {x : PV} (h : webP x = true) : ∃ w : Web, x = w.pv ∧ w.Ok := by
  unfold webP at h
  split at h
  · rename_i os ns
    simp only [Bool.and_eq_true, decide_eq_true_eq, namesP, List.all_eq_true] at h
    obtain ⟨⟨h1, h30⟩, ⟨ht, hn⟩, ho⟩ := h
    obtain ⟨xs, rfl, t1, t6, tp, tu⟩ := table_of2 ht
    simp only [items] at hn
    obtain ⟨obs, rfl, hob⟩ := list_of (α := Ob) (P := fun x => objP os.length x = true) (R := fun o => o.Ok os.length) (f := Ob.pv) ho (fun x hx => ob_of hx)
    obtain ⟨ns, rfl, hns⟩ := list_of (α := Str × Nat) (P := fun x => pairP x = true ∧ numP (obs.map Ob.pv).length (snd x) = true) (R := fun p => Wd p.1 ∧ p.2 < obs.length) (f := npv) (fun x hx => ⟨tp x hx, hn x hx⟩) (by
      rintro x ⟨h1, h2⟩
      obtain ⟨z, y, rfl, hw⟩ := pairP_fst h1
      obtain ⟨m, e, hm⟩ := num_of h2
      refine ⟨(z, m), ?_, hw, by simpa using hm⟩
      have e : y = .int (m : Nat) := e
      rw [e]; rfl)
    rw [words_npv] at tu
    simp only [List.length_map] at h1 h30 t1 t6 hob
    exact ⟨⟨obs, ns⟩, rfl, by show 1 ≤ obs.length; omega, by show obs.length ≤ 30; omega, hob, by show 1 ≤ ns.length; omega, by show ns.length ≤ 6; omega, tu, fun p hp => (hns p hp).1, fun p hp => (hns p hp).2⟩
  · cases h
theorem ok_of {w : Web} (h : webP w.pv = true) : w.Ok := by
  obtain ⟨v, e, hv⟩ := web_of h
  rw [Web.pv_inj _ _ e]; exact hv
/-! from webs to data -/
theorem Wd.len {z : Str} (h : Wd z) : z.cps.size ≤ 8 := by
  unfold Wd wordP at h
  simp only [Bool.and_eq_true, decide_eq_true_eq] at h
  have : z.length = z.cps.size := rfl
  omega
theorem Wd.nv {z : Str} (h : Wd z) (n : Nat) : nv n (.str z) = true := by
  have hl := h.len
  unfold Wd wordP at h
  simp only [Bool.and_eq_true, List.all_eq_true, low26, decide_eq_true_eq] at h
  simp only [Sim.nv, Bool.and_eq_true, decide_eq_true_eq, List.all_eq_true]
  refine ⟨?_, fun c hc => ?_⟩
  · have : z.length = z.cps.size := rfl
    omega
  · have := h.2 c hc; omega
theorem Vl.nv {n : Nat} {v : Vl} (h : v.Ok n) (hn : n ≤ 1000) : Sim.nv 1 v.pv = true ∧ Sim.pl v.pv = true ∧ sz v.pv ≤ 1 ∧ valP n v.pv = true := by
  cases v with
  | int i => exact ⟨int_nv h.1 h.2, rfl, by simp [Vl.pv, sz], int_val h.1 h.2⟩
  | ref m =>
    have h : m < n := h
    exact ⟨ref_nv (by omega) (by omega), rfl, by simp [Vl.pv, sz, szs], ref_val (by omega) (by omega) (by omega)⟩
theorem fpv_ok {n : Nat} {p : Str × Vl} (hw : Wd p.1) (hv : p.2.Ok n) (hn : n ≤ 1000) : FieldOk n (fpv p) := by
  obtain ⟨h1, h2, h3, h4⟩ := Vl.nv hv hn
  refine ⟨hw, h4, ?_, ?_, ?_⟩
  · show (Sim.nv 1 (.str p.1) && (Sim.nv 1 p.2.pv && true)) = true
    rw [hw.nv, h1]; rfl
  · show (true && (Sim.pl p.2.pv && true)) = true
    rw [h2]; rfl
  · have := hw.len
    simp only [fpv, sz, szs]; omega
theorem kind_ok {z : Str} (h : z = "open" ∨ z = "frozen") : .str z ∈ kinds3 := by
  rcases h with rfl | rfl
  · exact List.mem_cons_self ..
  · exact List.mem_cons_of_mem _ (List.mem_cons_self ..)
theorem Ob.Ok.data {n : Nat} {o : Ob} (h : o.Ok n) (hn : n ≤ 1000) : ObjOk n o.pv := by
  refine obj_of (fs := o.fs.map fpv) (kind_ok h.kd) (fun f hf => ?_) (by rw [words_fpv]; exact h.up) (by simpa using h.f4)
  obtain ⟨p, hp, rfl⟩ := List.mem_map.mp hf
  exact fpv_ok (h.wd p hp) (h.vl p hp) hn
theorem Web.Ok.data {w : Web} (h : w.Ok) : WebOk (w.os.map Ob.pv) (w.ns.map npv) := by
  have h30 := h.o30
  refine ⟨by simpa using h.o1, by simpa using h.o30, fun o ho => ?_, fun y hy => ?_, by rw [words_npv]; exact h.up, by simpa using h.n1, by simpa using h.n6⟩
  · obtain ⟨b, hb, rfl⟩ := List.mem_map.mp ho
    rw [List.length_map]
    exact (h.ob b hb).data (by omega)
  · obtain ⟨p, hp, rfl⟩ := List.mem_map.mp hy
    rw [List.length_map]
    exact ⟨p.1, p.2, rfl, h.wd p hp, (h.wd p hp).nv 1, (h.wd p hp).len, by omega, by have := h.lt p hp; omega⟩
theorem WebOk.typed {os ns : List PV} (h : WebOk os ns) : ∃ w : Web, .tup [.tup os, .tup ns] = w.pv ∧ w.Ok := web_of (web_is h)
theorem Web.Ok.nice {w : Web} (h : w.Ok) : Nice w.pv := web_nice h.data
theorem Web.Ok.is {w : Web} (h : w.Ok) : webP w.pv = true := web_is h.data
theorem Web.Ok.nvpl {w : Web} (h : w.Ok) : Sim.nv 6 w.pv = true ∧ Sim.pl w.pv = true := by
  have h30 := h.o30
  exact web_data (m := (w.os.length : Int)) (by omega) (fun o ho => by have := h.data.os o ho; rwa [List.length_map] at this) (fun o ho => by have := h.data.ns o ho; rwa [List.length_map] at this)
theorem is_web_ok {w : Web} (h : w.Ok) (st : Sto) : f_is_web [w.pv] st = .ok (.bl true) st := by
  rw [f_is_web_ok h.nice.dt h.nice.ks st, h.is]
/-- a drawn web -/
theorem web_w {st : Sto} {k : Nat} {n : Int} (hk : Dr k st) (h0 : 0 < n) (h1 : n ≤ 30) : wR (f__law_web [.ref k, .int n] st) (fun v s => ∃ w : Web, v = w.pv ∧ w.Ok ∧ Up k st s) := by
  obtain ⟨os, ns, a, e, W⟩ := web_sp hk h0 h1
  obtain ⟨w, ew, hw⟩ := W.typed
  exact wR_eq e ⟨w, ew, hw, a, rfl⟩
theorem take_w {st : Sto} {k : Nat} {n : Int} (h : Dr k st) (h0 : 0 < n) (h1 : n < 10000000000) : wR (f__law_take [.ref k, .int n] st) (fun v s => ∃ d : Int, v = .int d ∧ 0 ≤ d ∧ d < n ∧ Up k st s) := by
  obtain ⟨d, a, e, q1, q2⟩ := take_sp h h0 h1
  exact wR_eq e ⟨d, rfl, q1, q2, a, rfl⟩
end K01

set_option Elab.async false
set_option linter.all false
set_option maxRecDepth 100000
set_option maxHeartbeats 1000000
namespace K01
open PySem PySem.Spec PyProof.Rows L2 Sim Pg
/-! ### tables -/
def asc {α : Type} : List (Str × α) → Str → Option α
  | [], _ => none
  | p :: r, k => if p.1 = k then some p.2 else asc r k
def ppv {α : Type} (f : α → PV) (p : Str × α) : PV := .tup [.str p.1, f p.2]
def kpv {α : Type} (f : α → PV) (p : Str × α) : Key × PV := (.inr p.1, f p.2)
theorem asc_mem {α : Type} : ∀ {l : List (Str × α)} {k : Str} {v : α}, asc l k = some v → (k, v) ∈ l
  | p :: r, k, v, h => by
    unfold asc at h
    split at h
    · rename_i e; cases h; subst e; exact List.mem_cons_self ..
    · exact List.mem_cons_of_mem _ (asc_mem h)
theorem asc_of {α : Type} : ∀ {l : List (Str × α)} {k : Str} {v : α}, (l.map (·.1)).Nodup → (k, v) ∈ l → asc l k = some v
  | p :: r, k, v, hn, h => by
    rw [List.map_cons, List.nodup_cons] at hn
    unfold asc
    rcases List.mem_cons.mp h with rfl | h
    · rw [if_pos rfl]
    · have : p.1 ≠ k := fun e => hn.1 (List.mem_map.mpr ⟨(k, v), h, e.symm⟩)
      rw [if_neg this]; exact asc_of hn.2 h
theorem lookK_asc {α : Type} (f : α → PV) : ∀ (l : List (Str × α)) (k : Str), lookK (.inr k) (l.map (kpv f)) = (asc l k).map f
  | [], _ => rfl
  | p :: r, k => by
    simp only [List.map_cons, kpv, lookK, asc, Sum.inr.injEq]
    split
    · rfl
    · exact lookK_asc f r k
theorem up_nodup {ws : List Str} (h : ws.Pairwise ltS) : ws.Nodup := h.imp fun {a b} hl e => by
  subst e
  exact absurd hl (List.lt_irrefl _)
theorem asPrs_ok {α : Type} (f : α → PV) : ∀ l : List (Str × α), mapO asPr (l.map (ppv f)) = some (l.map (kpv f))
  | [] => rfl
  | p :: r => by simp only [List.map_cons, mapO, ppv, asPr, toKey, Option.map_some, asPrs_ok f r, kpv]
theorem putP_new {kvs : List (Key × PV)} {k : Key} {v : PV} (h : ∀ kv ∈ kvs, kv.1 ≠ k) : putP kvs k v = kvs ++ [(k, v)] := by
  unfold putP
  rw [if_neg]
  rw [List.any_eq_true]
  rintro ⟨x, hx, e⟩
  exact h x hx (of_decide_eq_true e)
theorem mergeP_nodup : ∀ {l : List (Key × PV)}, (l.map (·.1)).Nodup → mergeP l = l := by
  have go : ∀ (l acc : List (Key × PV)), ((acc ++ l).map (·.1)).Nodup → l.foldl (fun acc kv => putP acc kv.1 kv.2) acc = acc ++ l := by
    intro l
    induction l with
    | nil => intro acc _; simp
    | cons p r ih =>
      intro acc h
      rw [List.foldl_cons]
      have h2 : ∀ kv ∈ acc, kv.1 ≠ p.1 := by
        intro kv hk e
        rw [List.map_append, List.nodup_append] at h
        exact h.2.2 kv.1 (List.mem_map.mpr ⟨kv, hk, rfl⟩) p.1 (by simp) e
      rw [putP_new h2, ih]
      · simp
      · simpa using h
  intro l h
  have := go l [] (by simpa using h)
  simpa [mergeP] using this
theorem kpv_nodup {α : Type} (f : α → PV) {l : List (Str × α)} (h : (l.map (·.1)).Nodup) : ((l.map (kpv f)).map (·.1)).Nodup := by
  have e : (l.map (kpv f)).map (·.1) = (l.map (·.1)).map (Sum.inr : Str → Key) := by simp only [List.map_map]; rfl
  rw [e]
  exact List.Pairwise.map _ (fun a b hab e => hab (Sum.inr.inj e)) h
theorem dictT {α : Type} (f : α → PV) {l : List (Str × α)} (h : (l.map (·.1)).Nodup) (st : Sto) : sDict [.tup (l.map (ppv f))] st = .ok (.dct (l.map (kpv f))) st := by
  simp only [sDict, asS, Option.bind_some, asPrs_ok, mergeP_nodup (kpv_nodup f h)]
theorem inD {α : Type} (f : α → PV) (l : List (Str × α)) (k : Str) (neg : Bool) (st : Sto) : sInn neg (.str k) (.dct (l.map (kpv f))) st = .ok (.bl (if neg then !(asc l k).isSome else (asc l k).isSome)) st := by
  simp only [sInn, asD, toKey, lookK_asc, Option.isSome_map]
theorem ixD {α : Type} (f : α → PV) {l : List (Str × α)} {k : Str} {v : α} (h : asc l k = some v) (st : Sto) : sIx (.dct (l.map (kpv f))) (.str k) st = .ok (f v) st := by
  simp only [sIx, asD, toKey, lookK_asc, h, Option.map_some]
theorem getD_ok {α : Type} (f : α → PV) (l : List (Str × α)) (k : Str) (st : Sto) : sGet (.dct (l.map (kpv f))) (.str k) st = .ok (((asc l k).map f).getD .non) st := by
  simp only [sGet, asD, toKey, lookK_asc]
/-! ### to follow a path -/
def stepV (w : Web) (v : Option Vl) (k : Str) : Option Vl := match v with
  | some (.ref n) => (w.os[n]?).bind fun o => asc o.fs k
  | _ => none
def follow (w : Web) : List Str → Option Vl
  | [] => none
  | h :: r => r.foldl (stepV w) ((asc w.ns h).map .ref)
def optV : Option Vl → PV
  | none => .non
  | some v => v.pv
def ppath (p : List Str) : PV := .tup (p.map .str)
theorem stepV_none (w : Web) (k : Str) : stepV w none k = none := rfl
theorem fold_none (w : Web) : ∀ r : List Str, r.foldl (stepV w) none = none
  | [] => rfl
  | _ :: r => fold_none w r
def VOk (w : Web) (v : Option Vl) : Prop := ∀ n, v = some (.ref n) → n < w.os.length
theorem VOk.start {w : Web} (h : w.Ok) (k : Str) : VOk w ((asc w.ns k).map .ref) := fun n e => by
  obtain ⟨m, e1, e2⟩ := Option.map_eq_some_iff.mp e
  cases e2
  exact h.lt _ (asc_mem e1)
theorem VOk.step {w : Web} (h : w.Ok) (v : Option Vl) (k : Str) : VOk w (stepV w v k) := fun n e => by
  unfold stepV at e
  split at e
  · rename_i m
    obtain ⟨o, eo, e2⟩ := Option.bind_eq_some_iff.mp e
    have hm := asc_mem e2
    have ho : o ∈ w.os := List.mem_of_getElem? eo
    exact (h.ob o ho).vl _ hm
  · cases e
theorem VOk.fold {w : Web} (h : w.Ok) : ∀ (r : List Str) {v : Option Vl}, VOk w v → VOk w (r.foldl (stepV w) v)
  | [], _, hv => hv
  | k :: r, v, hv => VOk.fold h r (VOk.step h v k)
theorem follow_ok {w : Web} (h : w.Ok) (p : List Str) : VOk w (follow w p) := by
  cases p with
  | nil => exact nofun
  | cons k r => exact VOk.fold h r (VOk.start h k)
theorem ixT {xs : List PV} {i : Nat} {x : PV} (h : xs[i]? = some x) (st : Sto) : sIx (.tup xs) (.int (i : Nat)) st = .ok x st := by
  obtain ⟨hi, rfl⟩ := List.getElem?_eq_some_iff.mp h
  simp only [sIx, atI_nat hi]
theorem ix0s (x : PV) (xs : List PV) (st : Sto) : sIx (.tup (x :: xs)) (.int 0) st = .ok x st := ix0 st
theorem ix1s (x y : PV) (xs : List PV) (st : Sto) : sIx (.tup (x :: y :: xs)) (.int 1) st = .ok y st := ix1 st
theorem sl1 (x : PV) (xs : List PV) (st : Sto) : sSlice (.tup (x :: xs)) (some 1) none st = .ok (.tup xs) st := by
  simp only [sSlice, cut1, List.drop_one, List.tail_cons]
theorem isi_t (x : PV) (h : flat x = true) (st : Sto) : sIsi [x, .raw (.ty "tuple")] st = .ok (.bl (is_tuple x)) st := isi_tuple h st
theorem optV_flat (v : Option Vl) : flat (optV v) = true := by
  cases v with
  | none => rfl
  | some v => cases v <;> rfl
def isRef : Option Vl → Bool
  | some (.ref _) => true
  | _ => false
theorem optV_tup (v : Option Vl) : is_tuple (optV v) = isRef v := by
  cases v with
  | none => rfl
  | some v => cases v <;> rfl
theorem isi_optV (v : Option Vl) (st : Sto) : sIsi [optV v, .raw (.ty "tuple")] st = .ok (.bl (isRef v)) st := by
  rw [isi_t _ (optV_flat v), optV_tup]
theorem optV_non (v : Option Vl) : isNon (optV v) = v.isNone := by
  cases v with
  | none => rfl
  | some v => cases v <;> rfl
theorem isn_optV (neg : Bool) (v : Option Vl) (st : Sto) : sIsn neg (optV v) .non st = .ok (.bl (if neg then !v.isNone else v.isNone)) st := by
  cases v with
  | none => rfl
  | some v => cases v <;> rfl
theorem obs_at {w : Web} {n : Nat} {o : Ob} (h : w.os[n]? = some o) (st : Sto) : sIx (.tup (w.os.map Ob.pv)) (.int (n : Nat)) st = .ok o.pv st := ixT (by rw [List.getElem?_map, h]; rfl) st
theorem fields_eq (o : Ob) : o.fs.map fpv = o.fs.map (ppv Vl.pv) := rfl
theorem names_eq (w : Web) : w.ns.map npv = w.ns.map (ppv fun n => .int (n : Nat)) := rfl
theorem get_opt (l : List (Str × Vl)) (k : Str) : ((asc l k).map Vl.pv).getD .non = optV (asc l k) := by
  cases asc l k <;> rfl
theorem w_eq {r : Res PV} {v : PV} {st : Sto} (h : wR r (fun a s => a = v ∧ s = st)) : r = .ok v st := by
  obtain ⟨a, s, e, rfl, rfl⟩ := h.get
  exact e
theorem words_of_l {α : Type} (f : α → PV) (k : α → Str) (g : α → PV) (hf : ∀ a, f a = .tup [.str (k a), g a]) (l : List α) (hl : l.length ≤ 1000) (st : Sto) : f_words_of [.tup (l.map f)] st = .ok (.lst (l.map fun a => .str (k a))) st := by
  unfold f_words_of m_words_of
  have hfit : fitL (l.map f) = true := decide_eq_true (by rw [List.length_map]; omega)
  have e := lcGo_rel (t := .one 1) (m := mBin sIx (mVar 1) (mC (.int 0))) (env0 := [some (.tup (l.map f)), none]) (st := st) f (fun a => .str (k a)) l fun a _ => ⟨_, rfl, by
    rw [hf a]
    simp_arith! [ix0]⟩
  have lo : ∀ l : List α, lows st.length (l.map fun a => PV.str (k a)) = true := fun l => by
    induction l with
    | nil => rfl
    | cons a l ih => simp only [List.map_cons, lows, low, ih, Bool.and_self]
  simp_arith! [mLc, hfit, wipeL, e, gc_same (st := st) (x := .lst (l.map fun a => .str (k a))) (by simp only [low]; exact lo _)]
theorem optV_low (n : Nat) (v : Option Vl) : low n (optV v) = true := by
  cases v with
  | none => rfl
  | some v => cases v <;> rfl
theorem fitOne (x : PV) : fitL [x] = true := rfl
theorem law_value_ok {w : Web} (h : w.Ok) {k : Str} {r : List Str} (st : Sto) : f__law_value [w.pv, ppath (k :: r)] st = .ok (optV (follow w (k :: r))) st := by
  refine w_eq ?_
  unfold f__law_value
  refine w_defM ?_
  unfold m__law_value
  have hn : (w.ns.map (·.1)).Nodup := up_nodup h.up
  have fin : ∀ v : Option Vl, gc st (optV v) st = .ok (optV v) st := fun v => gc_same (optV_low _ v)
  have fnon : gc st .non st = .ok .non st := fin none
  simp_all_arith! [Web.pv, ppath, ix1s, ix0s, names_eq, dictT _ hn, inD]
  cases ek : asc w.ns k with
  | none =>
    simp_all_arith! [Option.isSome_none, fnon, follow, ek, Option.map_none, fold_none]
    exact ⟨rfl, trivial⟩
  | some n =>
    simp_all_arith! [Option.isSome_some, ixD _ ek, sTup, fitOne, mSlice, oSome, oNone, sl1]
    refine w_forGo (I := fun rem e s => ∃ (us : List Str) (v : Option Vl) (z : Option PV), rem = us.map PV.str ∧ s = st ∧ VOk w v ∧
      e = [some (.tup [.tup (w.os.map Ob.pv), .tup (w.ns.map (ppv fun n => .int (n : Nat)))]), some (.tup (.str k :: r.map PV.str)), some (.dct (w.ns.map (kpv fun n => .int (n : Nat)))), some (optV v), z] ∧ us.foldl (stepV w) v = follow w (k :: r)) ?_ ?_ ?_
    · rintro x xs e s ⟨us, v, z, hx, rfl, hv, rfl, hf⟩
      cases us with
      | nil => cases hx
      | cons u us =>
        cases hx
        refine ⟨_, rfl, ?_⟩
        simp_all_arith! [isi_optV]
        cases hr : isRef v with
        | false =>
          have hn : stepV w v u = none := by
            cases v with
            | none => rfl
            | some v => cases v with
              | int i => rfl
              | ref n => cases hr
          rw [List.foldl_cons, hn, fold_none] at hf
          simp_all_arith! [fnon, ← hf]
          exact ⟨rfl, trivial⟩
        | true =>
          cases v with
          | none => cases hr
          | some v => cases v with
            | int i => cases hr
            | ref n =>
              have hlt := hv n rfl
              have ho : w.os[n]? = some w.os[n] := List.getElem?_eq_getElem hlt
              have hN : ((w.os[n].fs).map (·.1)).Nodup := up_nodup (h.ob _ (List.getElem_mem hlt)).up
              have e1 : optV (some (.ref n)) = .tup [.int (n : Nat)] := rfl
              have e2 : stepV w (some (.ref n)) u = asc w.os[n].fs u := by simp only [stepV, ho, Option.bind_some]
              simp_all_arith! [e1, ix0s, obs_at ho, Ob.pv, ix1s, fields_eq, mGet, dictT _ hN, isDct, asD, Option.isSome_some, getD_ok, get_opt]
              refine ⟨us, asc w.os[n].fs u, some (.str u), rfl, trivial, ?_, rfl, ?_⟩
              · have := VOk.step h (some (.ref n)) u
                rwa [e2] at this
              · rw [← e2]; exact hf
    · rintro e s ⟨us, v, z, hx, rfl, hv, rfl, hf⟩
      cases us with
      | cons u us => cases hx
      | nil =>
        simp_all_arith! [fin]
        exact ⟨by rw [← hf]; rfl, trivial⟩
    · exact ⟨r, some (.ref n), none, rfl, rfl, fun m e => by cases e; exact h.lt _ (asc_mem ek), rfl, by simp only [follow, ek, Option.map_some]⟩
end K01

set_option Elab.async false
set_option linter.all false
set_option maxRecDepth 100000
set_option maxHeartbeats 1000000
namespace K01
open PySem PySem.Spec PyProof.Rows L2 Sim Pg
/-! ### drawn paths -/
theorem pick_str {ws : List Str} {d : Int} (h0 : 0 ≤ d) (h1 : d < ws.length) (st : Sto) : ∃ z ∈ ws, sIx (.lst (ws.map .str)) (.int d) st = .ok (.str z) st := by
  obtain ⟨i, rfl⟩ := Int.eq_ofNat_of_zero_le h0
  have hi : i < (ws.map PV.str).length := by rw [List.length_map]; omega
  have hi2 : i < ws.length := by omega
  refine ⟨ws[i], List.getElem_mem hi2, ?_⟩
  rw [ixLF hi st, List.getElem_map]
theorem lenL (xs : List PV) (st : Sto) : sLen [.lst xs] st = .ok (.int xs.length) st := rfl
theorem low_ppath (n : Nat) (p : List Str) : low n (ppath p) = true := by
  have : ∀ p : List Str, lows n (p.map .str) = true := by
    intro p
    induction p with
    | nil => rfl
    | cons a p ih => simp only [List.map_cons, lows, low, ih, Bool.and_self]
  exact this p
theorem words_of_fields {α : Type} (f : α → PV) (ix iy : Nat) (m : Nat) (env0 : Lo) (l : List (Str × α)) (st : Sto) (he : env0.length = m) (hx : ix < m) (hne : ix ≠ iy) :
    lcGo (.many [ix, iy]) bYes (mVar ix) env0 (l.map (ppv f)) st = .ok (l.map fun p => .str p.1) st := by
  have := lcGo_maps (t := .many [ix, iy]) (m := mVar ix) (env0 := env0) (st := st) (fun x => fst x) (xs := l.map (ppv f)) (by
    intro x hx'
    obtain ⟨p, _, rfl⟩ := List.mem_map.mp hx'
    refine ⟨_, rfl, ?_⟩
    have : ((env0.set ix (some (.str p.1))).set iy (some (f p.2)))[ix]? = some (some (.str p.1)) := by
      rw [List.getElem?_set_ne (Ne.symm hne), List.getElem?_set_self (by omega)]
    show mVar ix ((env0.set ix (some (.str p.1))).set iy (some (f p.2))) st = _
    unfold mVar
    rw [this]; rfl)
  rw [this, List.map_map]
  rfl
theorem fit_small {α : Type} {xs : List α} (h : xs.length ≤ 1000) : fitL xs = true := decide_eq_true (by omega)
theorem neqT {xs : List PV} {n : Nat} (hn : n ≤ 50) (h1 : nvs n xs = true) (h2 : pls xs = true) (st : Sto) : sEqn true (.tup xs) (.tup []) st = .ok (.bl (!decide (xs = []))) st := by
  obtain ⟨d, q1, q2⟩ := plain_shaped (n := n + 1) (x := .tup xs) (by omega) (by simpa only [nv] using h1) (by simpa only [pl] using h2)
  simp only [toD, Option.map_eq_some_iff] at q1
  obtain ⟨ds, q3, rfl⟩ := q1
  have f : flatEq (.tup xs) (.tup []) = none := rfl
  have e1 : toDS st (.tup xs) = some (.tuple ds) := by simp only [toDS, toD, q3, Option.map_some]
  have e2 : toDS st (.tup []) = some (.tuple []) := rfl
  have e3 : SeqAt.shaped (.tuple []) = true := by decide +kernel
  have e4 : PyData.eqv (.tuple ds) (.tuple []) = decide (ds = []) := by cases ds <;> simp [PyData.eqv, PyData.eqvAll]
  unfold sEqn
  simp only [f, e1, e2, q2, e3, Bool.and_self, if_true, e4, toDs_nil q3]
/-- a list of words that grows, in a store that is drawn from -/
structure Grow (k : Nat) (st : Sto) (x : PV) (p : List Str) (s : Sto) : Prop where
  is : ∃ s1 t i, Up k st s1 ∧ s = s1 ++ t ∧ x = .ref (st.length + i) ∧ t[i]? = some (.lst (p.map .str))
theorem Grow.dr {k : Nat} {st s : Sto} {x : PV} {p : List Str} (g : Grow k st x p s) (hk : k < st.length) : Dr k s := by
  obtain ⟨s1, t, i, u, rfl, rfl, e⟩ := g.is
  exact (u.dr hk).app
theorem Grow.at {k : Nat} {st s : Sto} {x : PV} {p : List Str} (g : Grow k st x p s) : ∃ j, x = .ref j ∧ s[j]? = some (.lst (p.map .str)) := by
  obtain ⟨s1, t, i, u, rfl, rfl, e⟩ := g.is
  refine ⟨_, rfl, ?_⟩
  rw [← u.len, List.getElem?_append_right (by omega)]
  simpa using e
theorem Grow.up {k : Nat} {st s s' : Sto} {x : PV} {p : List Str} (g : Grow k st x p s) (hk : k < st.length) (u' : Up k s s') : Grow k st x p s' := by
  obtain ⟨s1, t, i, u, rfl, rfl, e⟩ := g.is
  obtain ⟨s2, u2, rfl⟩ := u'.split (by rw [u.len]; exact hk)
  exact ⟨s2, t, i, u.trans u2, rfl, rfl, e⟩
theorem Grow.app {k : Nat} {st s : Sto} {x : PV} {p : List Str} (g : Grow k st x p s) (hl : p.length ≤ 1000) (z : Str) : isLst x s = true ∧ ∃ s', sApp x (.str z) s = .ok .non s' ∧ Grow k st x (p ++ [z]) s' := by
  obtain ⟨s1, t, i, u, rfl, rfl, e⟩ := g.is
  have hl1 := u.len
  have hg : (s1 ++ t)[st.length + i]? = some (.lst (p.map .str)) := by
    rw [← hl1, List.getElem?_append_right (by omega)]
    simpa using e
  refine ⟨isl_ok hg, _, app_ok hg (by rw [List.length_map]; omega) _, s1, t.set i (.lst ((p ++ [z]).map .str)), i, u, ?_, rfl, ?_⟩
  · rw [← hl1, List.set_append_right _ _ (by omega)]
    simp
  · rw [List.getElem?_set_self (List.getElem?_eq_some_iff.mp e).1]
theorem eqI (a b : Int) (st : Sto) : sEqn false (.int a) (.int b) st = .ok (.bl (decide (a = b))) st := rfl
theorem lstMs (z : Str) (st : Sto) : sLstM [.str z] st = .ok (.ref st.length) (st ++ [.lst [.str z]]) := rfl
theorem Grow.new {k : Nat} {st s : Sto} {t : Sto} (u : Up k st s) (z : Str) : Grow k st (.ref (s ++ t).length) [z] (s ++ t ++ [.lst [.str z]]) :=
  ⟨s, t ++ [.lst [.str z]], t.length, u, by simp, by rw [List.length_append, u.len], by simp⟩
theorem wd_of {ws : List Str} (h : ws.all (fun z => wordP (.str z)) = true) : ∀ z ∈ ws, Wd z := fun z hz => List.all_eq_true.mp h z hz
theorem Wd.q : Wd "q" := by unfold Wd; decide +kernel
theorem tup_st {s : Sto} {j : Nat} {p : List Str} (h : s[j]? = some (.lst (p.map .str))) : sTuple [.ref j] s = .ok (ppath p) s := tupM h
theorem law_value_ok' {w : Web} (h : w.Ok) {p : List Str} (hp : p ≠ []) (st : Sto) : f__law_value [w.pv, ppath p] st = .ok (optV (follow w p)) st := by
  cases p with
  | nil => exact absurd rfl hp
  | cons k r => exact law_value_ok h st
theorem range_ok (d : Int) (h0 : 0 ≤ d) (h1 : d < 1000000) : (decide (-(2 ^ 62) ≤ d) && decide (d < 2 ^ 62)) = true := by
  rw [Bool.and_eq_true, decide_eq_true_eq, decide_eq_true_eq]; omega
theorem strsL (ws : List Str) (st : Sto) (h : ws.length ≤ 1000) : sLstF (ws.map .str) st = .ok (.lst (ws.map .str)) st := lstF_ok (fit_small (by rwa [List.length_map])) st
theorem words4_ok' : ∀ z ∈ (["a", "ab", "longname", "x"] : List Str), Wd z := wd_of (by decide +kernel)
theorem ObjOk.fds {n : Int} {o : Ob} (h : ObjOk n o.pv) : ∀ y ∈ o.fs.map (ppv Vl.pv), FieldOk n y := fun y hy => by
  obtain ⟨z, fs, e, _, _, _, _, hf⟩ := h.sh
  simp only [Ob.pv, PV.tup.injEq, List.cons.injEq, and_true] at e
  have e2 : o.fs.map fpv = fs := by simpa using e.2
  exact hf y (e2 ▸ hy)
theorem law_path_w {st : Sto} {k : Nat} {w : Web} {n : Int} (h : w.Ok) (hk : Dr k st) (h0 : 0 < n) (h1 : n ≤ 100) :
    wR (f__law_path [.ref k, w.pv, .int n] st) (fun v s => ∃ p : List Str, v = ppath p ∧ p ≠ [] ∧ (p.length : Int) ≤ n ∧ (∀ z ∈ p, Wd z) ∧ Up k st s) := by
  have hkl := hk.lt
  have hn1 := h.n1
  have hn6 := h.n6
  unfold f__law_path
  refine w_defM ?_
  unfold m__law_path
  have e1 := words_of_fields (fun n : Nat => PV.int (n : Nat)) 8 9 11 (wipeL [some (.ref k), some (.tup [.tup (w.os.map Ob.pv), .tup (w.ns.map (ppv fun n => .int (n : Nat)))]), some (.int n), none, none, none, none, none, none, none, none] [8, 9]) w.ns st rfl (by decide) (by decide)
  have hww : ∀ z ∈ w.ns.map (·.1), Wd z := fun z hz => by
    obtain ⟨p, hp, rfl⟩ := List.mem_map.mp hz
    exact h.wd p hp
  have em : (w.ns.map fun p => PV.str p.1) = (w.ns.map (·.1)).map .str := by rw [List.map_map]; rfl
  refine w_cut3 (M := fun e s => ∃ hd way z, e = [some (.ref k), some w.pv, some (.int n), some hd, some way, none, none, none, none, none, none] ∧ Wd z ∧ Grow k st way [z] s) ?_ ?_
  · simp_all_arith! [Web.pv, names_eq, ix1s, mLc, fit_small (xs := w.ns.map (ppv fun n => PV.int (n : Nat))) (by rw [List.length_map]; omega), e1, lenL]
    rw [em]
    refine (take_w hk (by rw [List.length_map, List.length_map]; omega) (by rw [List.length_map, List.length_map]; omega)).imp ?_
    rintro v s ⟨d, rfl, d0, d1, u⟩
    rw [List.length_map] at d1
    obtain ⟨z, hz, ez⟩ := pick_str d0 (ws := w.ns.map (·.1)) d1 s
    simp_all_arith! [ez, lstMs]
    refine (take_w (n := 12) (Dr.app (u.dr hkl)) (by decide) (by decide)).imp ?_
    rintro v s2 ⟨d2, rfl, _, _, u2⟩
    obtain ⟨s3, u3, rfl⟩ := u2.split (by rw [u.len]; exact hkl)
    have e3 : Up k st s3 := u.trans u3
    have g1 : Grow k st (.ref s.length) [z] (s3 ++ [.lst [.str z]]) := by
      have := Grow.new (t := []) e3 z
      simp only [List.append_nil] at this
      rwa [u3.len] at this
    simp_all_arith! [eqI]
    split
    · exact ⟨_, _, "q", rfl, Wd.q, Grow.new e3 "q"⟩
    · exact ⟨_, _, z, rfl, hww z hz, g1⟩
  · rintro e s ⟨hd, way, z, rfl, hz, g⟩
    refine w_cut2 (M := fun e s => ∃ x5 x6 x7 x8 x9 x10 p, e = [some (.ref k), some w.pv, some (.int n), some hd, some way, x5, x6, x7, x8, x9, x10] ∧ p ≠ [] ∧ (p.length : Int) ≤ n ∧ (∀ z ∈ p, Wd z) ∧ Grow k st way p s) ?_ ?_
    · obtain ⟨j, rfl, hj⟩ := g.at
      simp_all_arith! [tup_st hj, law_value_ok' h (p := [z]) (by simp), mRange1]
      refine (take_w (g.dr hkl) h0 (by omega)).imp ?_
      rintro v s1 ⟨d, rfl, d0, d1, u1⟩
      simp_all_arith! [range_ok d d0 (by omega)]
      refine w_forGo (I := fun rem e s => ∃ p x6 x7, e = [some (.ref k), some w.pv, some (.int n), some hd, some (.ref j), some (optV (follow w p)), x6, x7, none, none, none] ∧ p ≠ [] ∧ ((p.length + rem.length : Nat) : Int) = d + 1 ∧ (∀ z ∈ p, Wd z) ∧ Grow k st (.ref j) p s) ?_ ?_ ?_
      · rintro x xs e s ⟨p, x6, x7, rfl, hp, hl, hw, g⟩
        refine ⟨_, rfl, ?_⟩
        refine w_cut2 (M := fun e s => ∃ ws : List Str, e = [some (.ref k), some w.pv, some (.int n), some hd, some (.ref j), some (optV (follow w p)), some x, some (.lst (ws.map .str)), none, none, none] ∧ 1 ≤ ws.length ∧ ws.length ≤ 4 ∧ (∀ z ∈ ws, Wd z) ∧ Grow k st (.ref j) p s) ?_ ?_
        · have e4 := fun s => strsL ["a", "ab", "longname", "x"] s (by decide)
          simp only [List.map_cons, List.map_nil] at e4
          have hv := follow_ok h p
          simp_all_arith! [e4, isi_optV]
          cases hr : isRef (follow w p) with
          | false =>
            simp_all_arith! [Sim.wR_ok]
            exact ⟨["a", "ab", "longname", "x"], rfl, by decide, by decide, words4_ok', g⟩
          | true =>
            obtain ⟨m, em⟩ : ∃ m, follow w p = some (.ref m) := by
              cases hf : follow w p with
              | none => rw [hf] at hr; cases hr
              | some v => cases v with
                | int i => rw [hf] at hr; cases hr
                | ref m => exact ⟨m, rfl⟩
            have hlt := hv m em
            have ho : w.os[m]? = some w.os[m] := List.getElem?_eq_getElem hlt
            have hob := h.ob _ (List.getElem_mem hlt)
            have e5 : optV (some (.ref m)) = .tup [.int (m : Nat)] := rfl
            have e6 := fun s => neqT (xs := w.os[m].fs.map (ppv Vl.pv)) (n := 2) (by decide) (nvs_iff.mpr fun y hy => ((hob.data (n := w.os.length) (by have := h.o30; omega)).fds y hy).nv) (pls_iff.mpr fun y hy => ((hob.data (n := w.os.length) (by have := h.o30; omega)).fds y hy).pl) s
            rw [em]
            have nilT : ∀ s : Sto, sTup [] s = .ok (.tup []) s := fun _ => rfl
            simp_all_arith! [e5, Web.pv, ix0s, ix1s, obs_at ho, Ob.pv, fields_eq, nilT, e6]
            have base : ∀ s, Grow k st (.ref j) p s → ∃ ws : List Str, [some (PV.ref k), some (PV.tup [PV.tup (List.map Ob.pv w.os), PV.tup (List.map npv w.ns)]), some (PV.int n), some hd, some (PV.ref j), some (PV.tup [PV.int (m : Nat)]), some x,
                some (PV.lst [PV.str "a", PV.str "ab", PV.str "longname", PV.str "x"]), none, none, none] = [some (PV.ref k), some (PV.tup [PV.tup (List.map Ob.pv w.os), PV.tup (List.map npv w.ns)]), some (PV.int n), some hd, some (PV.ref j), some (PV.tup [PV.int (m : Nat)]), some x,
                some (PV.lst (List.map PV.str ws)), none, none, none] ∧ 1 ≤ ws.length ∧ ws.length ≤ 4 ∧ (∀ z ∈ ws, Wd z) ∧ Grow k st (.ref j) p s := fun s g => ⟨["a", "ab", "longname", "x"], rfl, by decide, by decide, words4_ok', g⟩
            by_cases hz : List.map (ppv Vl.pv) w.os[m].fs = []
            · simp_all_arith! [decide_eq_true hz]
              exact base s g
            · simp_all_arith! [decide_eq_false hz]
              refine (take_w (n := 8) (g.dr hkl) (by decide) (by decide)).imp ?_
              rintro v s2 ⟨d2, rfl, _, _, u2⟩
              have g2 := g.up hkl u2
              have e7 := fun s => words_of_fields Vl.pv 8 10 11 (wipeL [some (PV.ref k), some (PV.tup [PV.tup (List.map Ob.pv w.os), PV.tup (List.map npv w.ns)]), some (PV.int n), some hd, some (PV.ref j), some (PV.tup [PV.int (m : Nat)]), some x,
                some (PV.lst [PV.str "a", PV.str "ab", PV.str "longname", PV.str "x"]), none, none, none] [8, 10]) w.os[m].fs s rfl (by decide) (by decide)
              simp_all_arith! [Sim.wR_ok]
              split
              · have f4 := hob.f4
                simp_all_arith! [mLc, e5, Web.pv, ix0s, ix1s, obs_at ho, Ob.pv, fields_eq, fit_small (xs := w.os[m].fs.map (ppv Vl.pv)) (by rw [List.length_map]; omega), e7]
                refine ⟨w.os[m].fs.map (·.1), by rw [List.map_map]; rfl, ?_, by rw [List.length_map]; exact f4, fun z hz => ?_, g2⟩
                · rw [List.length_map]
                  cases hfs : w.os[m].fs with
                  | nil => rw [hfs] at hz; exact absurd rfl hz
                  | cons a b => simp
                · obtain ⟨q, hq, rfl⟩ := List.mem_map.mp hz
                  exact hob.wd q hq
              · exact base s2 g2
        · rintro e s ⟨ws, rfl, hw1, hw4, hww', g⟩
          have hdr := g.dr hkl
          have g0 := g
          obtain ⟨j', ej, hj'⟩ := g0.at
          cases ej
          have isl : isLst (.ref j) s = true := isl_ok hj'
          simp_all_arith! [mAppend, isl, lenL]
          refine (take_w hdr (by rw [List.length_map]; omega) (by rw [List.length_map]; omega)).imp ?_
          rintro v s2 ⟨d2, rfl, a0, a1, u2⟩
          rw [List.length_map] at a1
          obtain ⟨z2, hz2, ez2⟩ := pick_str a0 a1 s2
          have g2 := g.up hkl u2
          simp only [List.length_cons] at hl
          obtain ⟨_, s3, e3, g3⟩ := g2.app (by omega) z2
          obtain ⟨j', ej, hj3⟩ := g3.at
          cases ej
          have hp2 : p ++ [z2] ≠ [] := by simp
          simp_all_arith! [ez2, e3, tup_st hj3, law_value_ok' h hp2]
          refine ⟨p ++ [z2], _, _, rfl, hp2, by rw [List.length_append]; simp; omega, fun y hy => ?_, g3⟩
          rcases List.mem_append.mp hy with hy | hy
          · exact hw y hy
          · rw [List.mem_singleton.mp hy]; exact hww' z2 hz2
      · rintro e s ⟨p, x6, x7, rfl, hp, hl, hw, g⟩
        exact ⟨_, _, _, _, _, _, p, rfl, hp, by simp at hl; omega, hw, g⟩
      · refine ⟨[z], none, none, rfl, by simp, by simp [rangeP]; omega, fun y hy => by rw [List.mem_singleton.mp hy]; exact hz, g.up hkl u1⟩
    · rintro e s ⟨x5, x6, x7, x8, x9, x10, p, rfl, hp, hl, hw, g⟩
      obtain ⟨j, rfl, hj⟩ := g.at
      simp_all_arith! [tup_st hj]
      obtain ⟨s1, t, i, u, rfl, _, _⟩ := g.is
      rw [gc_up u (low_ppath _ _)]
      exact ⟨p, rfl, hp, hl, hw, u⟩
end K01

set_option Elab.async false
set_option linter.all false
set_option maxRecDepth 100000
set_option maxHeartbeats 1000000
namespace K01
open PySem PySem.Spec PyProof.Rows L2 Sim Pg
/-! ### equal data -/
theorem eqn_data {x y : PV} {d e : PyData} {st : Sto} (f : flatEq x y = none) (h1 : toDS st x = some d) (h2 : toDS st y = some e) (k1 : SeqAt.shaped d = true) (k2 : SeqAt.shaped e = true) (neg : Bool) : sEqn neg x y st = .ok (.bl (if neg then !PyData.eqv d e else PyData.eqv d e)) st := by
  unfold sEqn
  simp only [f, h1, h2, k1, k2, Bool.and_self, if_true]
theorem eq_same {n : Nat} {x : PV} (hn : n ≤ 64) (h1 : nv n x = true) (h2 : pl x = true) (neg : Bool) (st : Sto) : sEqn neg x x st = .ok (.bl (!neg)) st := by
  obtain ⟨d, q1, q2, q3⟩ := nv_plain h1 h2
  obtain ⟨d', q4, q5⟩ := plain_shaped hn h1 h2
  rw [q1] at q4; cases q4
  have hd : toDS st x = some d := by
    cases x with
    | ref k => cases q1
    | _ => exact q1
  have he := SeqAt.eqv_refl d q2
  have key : flatEq x x = none → sEqn neg x x st = .ok (.bl (!neg)) st := fun f => by
    rw [eqn_data f hd hd q5 q5, he]
    cases neg <;> rfl
  cases x with
  | ref k => cases q1
  | int i => unfold sEqn; simp only [flatEq, decide_true]; cases neg <;> rfl
  | str i => unfold sEqn; simp only [flatEq, decide_true]; cases neg <;> rfl
  | bl i => unfold sEqn; simp only [flatEq, decide_true]; cases neg <;> rfl
  | non => unfold sEqn; simp only [flatEq]; cases neg <;> rfl
  | _ => exact key rfl
/-! ### paths are recognized -/
def wayP : PV → Bool
  | .tup xs => (decide (1 ≤ (xs.length : Int)) && decide ((xs.length : Int) ≤ 64)) && xs.all wordP
  | _ => false
theorem f_is_path_ok {x : PV} (h : dt x = true) (st : Sto) : f_is_path [x] st = .ok (.bl (wayP x)) st := by
  have hf := dt_flat h
  unfold f_is_path m_is_path
  cases x with
  | tup xs =>
    obtain ⟨ff, hx⟩ := dt_tup h
    have e2 := lc_all (it := mIter (mVar 0)) (i := 1) (m := mApp (fnN 1 f_is_word) (mCons (mVar 1) mNil)) (vs := [1]) (env := [some (.tup xs), none]) (st := st) (g := wordP) rfl ff fun x hm => by
      simp only [wipeL]
      simp_arith! [f_is_word_ok (hx x hm)]
    rcases Bool.eq_false_or_eq_true (isTupP 1 64 (.tup xs)) with ht | ht
    · simp_arith! [f_is_tuple_ok hf, v_MOST_WORDS, ht, e2, sall_map]
      simp only [wayP]
      rw [show (decide (1 ≤ (xs.length : Int)) && decide ((xs.length : Int) ≤ 64)) = true from ht, Bool.true_and]
    · simp_arith! [f_is_tuple_ok hf, v_MOST_WORDS, ht]
      simp only [wayP]
      rw [show (decide (1 ≤ (xs.length : Int)) && decide ((xs.length : Int) ≤ 64)) = false from ht, Bool.false_and]
  | _ => first | (cases hf; done) | simp_arith! [f_is_tuple_ok hf, v_MOST_WORDS, isTupP, wayP]
structure Path (p : List Str) : Prop where
  ne : p ≠ []
  le : p.length ≤ 64
  wd : ∀ z ∈ p, Wd z
theorem nvs_strs {n : Nat} {p : List Str} (h : ∀ z ∈ p, Wd z) : nvs n (p.map .str) = true := nvs_iff.mpr fun x hx => by
  obtain ⟨z, hz, rfl⟩ := List.mem_map.mp hx
  exact (h z hz).nv n
theorem pls_strs (p : List Str) : pls (p.map .str) = true := pls_iff.mpr fun x hx => by
  obtain ⟨z, _, rfl⟩ := List.mem_map.mp hx
  rfl
theorem szs_strs {p : List Str} (h : ∀ z ∈ p, Wd z) : szs (p.map .str) ≤ p.length * 9 := by
  induction p with
  | nil => simp [szs]
  | cons a p ih =>
    have h1 := (h a (List.mem_cons_self ..)).len
    have h2 := ih fun z hz => h z (List.mem_cons_of_mem _ hz)
    simp only [List.map_cons, szs, sz, List.length_cons]
    omega
theorem Path.nv {p : List Str} (h : Path p) (n : Nat) : Sim.nv (n + 1) (ppath p) = true := nvs_strs h.wd
theorem Path.sz {p : List Str} (h : Path p) : Sim.sz (ppath p) ≤ 576 := by
  have := szs_strs h.wd
  have := h.le
  show szs (p.map .str) ≤ _
  omega
theorem Path.dt {p : List Str} (h : Path p) : Sim.dt (ppath p) = true := nv_dt (h.nv 0) (by have := h.sz; omega)
theorem Path.way {p : List Str} (h : Path p) : wayP (ppath p) = true := by
  have h1 := h.le
  have h2 : 1 ≤ p.length := by
    cases p with
    | nil => exact absurd rfl h.ne
    | cons a b => simp
  simp only [wayP, ppath, List.length_map, Bool.and_eq_true, decide_eq_true_eq, List.all_eq_true]
  refine ⟨⟨by omega, by omega⟩, fun x hx => ?_⟩
  obtain ⟨z, hz, rfl⟩ := List.mem_map.mp hx
  exact h.wd z hz
theorem is_path_ok {p : List Str} (h : Path p) (st : Sto) : f_is_path [ppath p] st = .ok (.bl true) st := by
  rw [f_is_path_ok h.dt, h.way]
theorem gc_non (st : Sto) : gc st .non st = .ok .non st := gc_same rfl
theorem check_web_ok {w : Web} (h : w.Ok) (st : Sto) : f_check_web [w.pv] st = .ok .non st := by
  unfold f_check_web m_check_web
  simp_arith! [is_web_ok h, gc_non]
theorem check_path_ok {p : List Str} (h : Path p) (st : Sto) : f_check_path [ppath p] st = .ok .non st := by
  unfold f_check_path m_check_path
  simp_arith! [is_path_ok h, gc_non]
/-! ### entries, and what a path leads to -/
theorem eqS (a b : Str) (st : Sto) : sEqn false (.str a) (.str b) st = .ok (.bl (decide (a = b))) st := rfl
theorem entry_ok {α : Type} (f : α → PV) (hlow : ∀ n v, low n (f v) = true) (l : List (Str × α)) (k : Str) (st : Sto) : f_entry [.tup (l.map (ppv f)), .str k] st = .ok (((asc l k).map f).getD .non) st := by
  refine w_eq ?_
  unfold f_entry
  refine w_defM ?_
  unfold m_entry
  simp_all_arith! [Sim.wR_ok]
  refine w_forGo (I := fun rem e s => ∃ (r : List (Str × α)) (y z : Option PV), rem = r.map (ppv f) ∧ s = st ∧ e = [some (.tup (l.map (ppv f))), some (.str k), y, z] ∧ asc r k = asc l k) ?_ ?_ ?_
  · rintro x xs e s ⟨r, y, z, hx, rfl, rfl, hr⟩
    cases r with
    | nil => cases hx
    | cons p r =>
      cases hx
      refine ⟨_, rfl, ?_⟩
      simp only [setMany]
      simp_all_arith! [eqS]
      simp only [asc] at hr
      by_cases e : p.1 = k
      · rw [if_pos e] at hr
        simp_all_arith! [decide_eq_true e, gc_same (hlow _ p.2), ← hr, Option.map_some, Option.getD_some]
        exact ⟨trivial, trivial⟩
      · rw [if_neg e] at hr
        simp_all_arith! [decide_eq_false e]
        exact ⟨r, _, _, rfl, trivial, rfl, hr⟩
  · rintro e s ⟨r, y, z, hx, rfl, rfl, hr⟩
    cases r with
    | cons p r => cases hx
    | nil =>
      simp_all_arith! [gc_non, ← hr]
      exact ⟨rfl, trivial⟩
  · exact ⟨l, none, none, rfl, rfl, rfl, rfl⟩
theorem Vl.low (n : Nat) (v : Vl) : Sim.low n v.pv = true := by cases v <;> rfl
theorem entry_fields (o : Ob) (k : Str) (st : Sto) : f_entry [.tup (o.fs.map fpv), .str k] st = .ok (optV (asc o.fs k)) st := by
  have := entry_ok Vl.pv (fun n v => Vl.low n v) o.fs k st
  rw [get_opt] at this
  exact this
def optN : Option Nat → PV
  | none => .non
  | some n => .int (n : Nat)
theorem entry_names (w : Web) (k : Str) (st : Sto) : f_entry [.tup (w.ns.map npv), .str k] st = .ok (optN (asc w.ns k)) st := by
  have := entry_ok (fun n : Nat => PV.int (n : Nat)) (fun n v => rfl) w.ns k st
  have e : (((asc w.ns k).map fun n : Nat => PV.int (n : Nat)).getD .non) = optN (asc w.ns k) := by cases asc w.ns k <;> rfl
  rw [e] at this
  exact this
theorem isn_optN (neg : Bool) (v : Option Nat) (st : Sto) : sIsn neg (optN v) .non st = .ok (.bl (if neg then !v.isNone else v.isNone)) st := by cases v <;> rfl
theorem sTup1 (x : PV) (st : Sto) : sTup [x] st = .ok (.tup [x]) st := rfl
theorem sTup2 (x y : PV) (st : Sto) : sTup [x, y] st = .ok (.tup [x, y]) st := rfl
theorem run_many2 (a b : PV) (is : List Nat) (env : Lo) (h : is.length = 2) : (Tgt.many is).run (.tup [a, b]) env = some (setMany is [a, b] env) := by
  simp only [Tgt.run, List.length_cons, List.length_nil, h, if_true]
theorem follow_fn {w : Web} (h : w.Ok) {p : List Str} (hp : p ≠ []) (st : Sto) : f_follow [w.pv, ppath p] st = .ok (optV (follow w p)) st := by
  cases p with
  | nil => exact absurd rfl hp
  | cons k r =>
  refine w_eq ?_
  unfold f_follow
  refine w_defM ?_
  unfold m_follow
  have fin : ∀ v : Option Vl, gc st (optV v) st = .ok (optV v) st := fun v => gc_same (optV_low _ v)
  simp only [Web.pv]
  rw [wO_seq, wO_setMany]
  simp_all_arith! [ppath]
  refine ⟨_, rfl, ?_⟩
  simp only [setMany]
  simp_all_arith! [ix0s, entry_names, isn_optN]
  have e0 : wR (mIf (bVal (mBin (sIsn false) (mVar 2) (mC .non))) (mC .non) (mApp sTup (mCons (mVar 2) mNil)) [some (.tup [.tup (w.os.map Ob.pv), .tup (w.ns.map npv)]), some (.tup (.str k :: r.map .str)), some (optN (asc w.ns k)), none, none, some (.tup (w.os.map Ob.pv)), some (.tup (w.ns.map npv))] st)
      (fun x s => x = optV ((asc w.ns k).map .ref) ∧ s = st) := by
    unfold mIf
    simp_all_arith! [isn_optN]
    cases asc w.ns k with
    | none => exact ⟨rfl, trivial⟩
    | some n => exact ⟨rfl, rfl⟩
  refine e0.imp ?_
  rintro _ s ⟨rfl, rfl⟩
  simp_all_arith! [mSlice, oSome, oNone, sl1]
  refine w_forGo (I := fun rem e s' => ∃ (us : List Str) (v : Option Vl) (z : Option PV), rem = us.map PV.str ∧ s' = s ∧ VOk w v ∧
      e = [some (.tup [.tup (w.os.map Ob.pv), .tup (w.ns.map npv)]), some (.tup (.str k :: r.map PV.str)), some (optN (asc w.ns k)), some (optV v), z, some (.tup (w.os.map Ob.pv)), some (.tup (w.ns.map npv))] ∧ us.foldl (stepV w) v = follow w (k :: r)) ?_ ?_ ?_
  · rintro x xs e s' ⟨us, v, z, hx, rfl, hv, rfl, hf⟩
    cases us with
    | nil => cases hx
    | cons u us =>
      cases hx
      refine ⟨_, rfl, ?_⟩
      simp_all_arith! [isi_optV]
      cases hr : isRef v with
      | false =>
        have hn : stepV w v u = none := by
          cases v with
          | none => rfl
          | some v => cases v with
            | int i => rfl
            | ref n => cases hr
        rw [List.foldl_cons, hn, fold_none] at hf
        simp_all_arith! [gc_non, ← hf]
        exact ⟨rfl, trivial⟩
      | true =>
        cases v with
        | none => cases hr
        | some v => cases v with
          | int i => cases hr
          | ref n =>
            have hlt := hv n rfl
            have ho : w.os[n]? = some w.os[n] := List.getElem?_eq_getElem hlt
            have e1 : optV (some (.ref n)) = .tup [.int (n : Nat)] := rfl
            have e2 : stepV w (some (.ref n)) u = asc w.os[n].fs u := by simp only [stepV, ho, Option.bind_some]
            simp_all_arith! [e1, ix0s, obs_at ho, Ob.pv, ix1s, entry_fields]
            refine ⟨us, asc w.os[n].fs u, some (.str u), rfl, trivial, ?_, rfl, ?_⟩
            · have := VOk.step h (some (.ref n)) u
              rwa [e2] at this
            · rw [← e2]; exact hf
  · rintro e s' ⟨us, v, z, hx, rfl, hv, rfl, hf⟩
    cases us with
    | cons u us => cases hx
    | nil =>
      simp_all_arith! [fin]
      exact ⟨by rw [← hf]; rfl, trivial⟩
  · exact ⟨r, (asc w.ns k).map .ref, none, rfl, rfl, VOk.start h k, rfl, rfl⟩
end K01

set_option Elab.async false
set_option linter.all false
set_option maxRecDepth 100000
set_option maxHeartbeats 1000000
namespace K01
open PySem PySem.Spec PyProof.Rows L2 Sim Pg
/-! ### the menu -/
def menu1 : List PV := [
  .non,
  .bl true,
  .int 0,
  .str "web",
  .lst [],
  .tup [],
  .lst [.ref 0, .ref 1],
  .tup [.ref 0],
  .tup [.ref 0, .ref 1, .tup []],
  .tup [.ref 2, .ref 1],
  .tup [.ref 0, .ref 3],
  .tup [.tup [], .tup [.tup [.str "a", .int 0]]],
  .tup [.ref 0, .tup []],
  .tup [.ref 0, .tup [.tup [.str "a", .ref 4]]],
  .tup [.ref 0, .tup [.tup [.str "a", .int (-1)]]],
  .tup [.ref 0, .tup [.tup [.str "a", .bl true]]],
  .tup [.ref 0, .tup [.tup [.str "A", .int 0]]],
  .tup [.ref 0, .tup [.tup [.str "", .int 0]]],
  .tup [.ref 0, .tup [.tup [.str "abcdefghi", .int 0]]],
  .tup [.ref 0, .tup [.tup [.str "b", .int 0], .tup [.str "a", .int 0]]],
  .tup [.ref 0, .tup [.tup [.str "a", .int 0], .tup [.str "a", .int 0]]],
  .tup [.ref 0, .tup [.lst [.str "a", .int 0]]],
  .tup [.ref 0, .tup [.tup [.str "a"]]],
  .tup [.ref 0, .tup [.tup [.str "a", .int 0, .int 0]]],
  .tup [.ref 0, .tup [.tup [.int 1, .int 0]]],
  .tup [.ref 0, .tup [.tup [.str "a", .int 0], .tup [.str "b", .int 0], .tup [.str "c", .int 0], .tup [.str "d", .int 0], .tup [.str "e", .int 0], .tup [.str "f", .int 0], .tup [.str "g", .int 0]]],
  .tup [.tup [.non], .tup [.tup [.str "a", .int 0]]],
  .tup [.tup [.tup [.str "frozen", .tup []], .non], .tup [.tup [.str "a", .int 0]]],
  .tup [.tup [.str "open"], .tup [.tup [.str "a", .int 0]]],
  .tup [.tup [.tup [.str "frozen", .tup []], .str "open"], .tup [.tup [.str "a", .int 0]]],
  .tup [.tup [.tup [.str "open"]], .tup [.tup [.str "a", .int 0]]],
  .tup [.tup [.tup [.str "frozen", .tup []], .tup [.str "open"]], .tup [.tup [.str "a", .int 0]]],
  .tup [.tup [.lst [.str "open", .tup []]], .tup [.tup [.str "a", .int 0]]],
  .tup [.tup [.tup [.str "frozen", .tup []], .lst [.str "open", .tup []]], .tup [.tup [.str "a", .int 0]]],
  .tup [.tup [.tup [.str "Open", .tup []]], .tup [.tup [.str "a", .int 0]]],
  .tup [.tup [.tup [.str "frozen", .tup []], .tup [.str "Open", .tup []]], .tup [.tup [.str "a", .int 0]]],
  .tup [.tup [.tup [.str "closed", .tup []]], .tup [.tup [.str "a", .int 0]]],
  .tup [.tup [.tup [.str "frozen", .tup []], .tup [.str "closed", .tup []]], .tup [.tup [.str "a", .int 0]]],
  .tup [.tup [.tup [.non, .tup []]], .tup [.tup [.str "a", .int 0]]],
  .tup [.tup [.tup [.str "frozen", .tup []], .tup [.non, .tup []]], .tup [.tup [.str "a", .int 0]]],
  .tup [.tup [.tup [.str "open", .lst []]], .tup [.tup [.str "a", .int 0]]],
  .tup [.tup [.tup [.str "frozen", .tup []], .tup [.str "open", .lst []]], .tup [.tup [.str "a", .int 0]]],
  .tup [.tup [.tup [.str "open", .non]], .tup [.tup [.str "a", .int 0]]],
  .tup [.tup [.tup [.str "frozen", .tup []], .tup [.str "open", .non]], .tup [.tup [.str "a", .int 0]]],
  .tup [.tup [.tup [.str "open", .tup [.tup [.int 1, .int 1]]]], .tup [.tup [.str "a", .int 0]]],
  .tup [.tup [.tup [.str "frozen", .tup []], .tup [.str "open", .tup [.tup [.int 1, .int 1]]]], .tup [.tup [.str "a", .int 0]]],
  .tup [.tup [.tup [.str "open", .tup [.tup [.str "x", .non]]]], .tup [.tup [.str "a", .int 0]]],
  .tup [.tup [.tup [.str "frozen", .tup []], .tup [.str "open", .tup [.tup [.str "x", .non]]]], .tup [.tup [.str "a", .int 0]]],
  .tup [.tup [.tup [.str "open", .tup [.tup [.str "x", .bl true]]]], .tup [.tup [.str "a", .int 0]]],
  .tup [.tup [.tup [.str "frozen", .tup []], .tup [.str "open", .tup [.tup [.str "x", .bl true]]]], .tup [.tup [.str "a", .int 0]]],
  .tup [.tup [.tup [.str "open", .tup [.tup [.str "x", .str "y"]]]], .tup [.tup [.str "a", .int 0]]],
  .tup [.tup [.tup [.str "frozen", .tup []], .tup [.str "open", .tup [.tup [.str "x", .str "y"]]]], .tup [.tup [.str "a", .int 0]]],
  .tup [.tup [.tup [.str "open", .tup [.tup [.str "x", .tup [.int 99]]]]], .tup [.tup [.str "a", .int 0]]],
  .tup [.tup [.tup [.str "frozen", .tup []], .tup [.str "open", .tup [.tup [.str "x", .tup [.int 99]]]]], .tup [.tup [.str "a", .int 0]]],
  .tup [.tup [.tup [.str "open", .tup [.tup [.str "x", .tup [.int (-1)]]]]], .tup [.tup [.str "a", .int 0]]],
  .tup [.tup [.tup [.str "frozen", .tup []], .tup [.str "open", .tup [.tup [.str "x", .tup [.int (-1)]]]]], .tup [.tup [.str "a", .int 0]]],
  .tup [.tup [.tup [.str "open", .tup [.tup [.str "x", .tup []]]]], .tup [.tup [.str "a", .int 0]]],
  .tup [.tup [.tup [.str "frozen", .tup []], .tup [.str "open", .tup [.tup [.str "x", .tup []]]]], .tup [.tup [.str "a", .int 0]]],
  .tup [.tup [.tup [.str "open", .tup [.tup [.str "x", .tup [.int 0, .int 0]]]]], .tup [.tup [.str "a", .int 0]]],
  .tup [.tup [.tup [.str "frozen", .tup []], .tup [.str "open", .tup [.tup [.str "x", .tup [.int 0, .int 0]]]]], .tup [.tup [.str "a", .int 0]]],
  .tup [.tup [.tup [.str "open", .tup [.tup [.str "x", .lst [.int 0]]]]], .tup [.tup [.str "a", .int 0]]],
  .tup [.tup [.tup [.str "frozen", .tup []], .tup [.str "open", .tup [.tup [.str "x", .lst [.int 0]]]]], .tup [.tup [.str "a", .int 0]]],
  .tup [.tup [.tup [.str "open", .tup [.tup [.str "x", .tup [.bl true]]]]], .tup [.tup [.str "a", .int 0]]],
  .tup [.tup [.tup [.str "frozen", .tup []], .tup [.str "open", .tup [.tup [.str "x", .tup [.bl true]]]]], .tup [.tup [.str "a", .int 0]]],
  .tup [.tup [.tup [.str "open", .tup [.tup [.str "x", .int 1000000000]]]], .tup [.tup [.str "a", .int 0]]],
  .tup [.tup [.tup [.str "frozen", .tup []], .tup [.str "open", .tup [.tup [.str "x", .int 1000000000]]]], .tup [.tup [.str "a", .int 0]]],
  .tup [.tup [.tup [.str "open", .tup [.tup [.str "x", .int (-1000000000)]]]], .tup [.tup [.str "a", .int 0]]],
  .tup [.tup [.tup [.str "frozen", .tup []], .tup [.str "open", .tup [.tup [.str "x", .int (-1000000000)]]]], .tup [.tup [.str "a", .int 0]]],
  .tup [.tup [.tup [.str "open", .tup [.tup [.str "y", .int 1], .tup [.str "x", .int 1]]]], .tup [.tup [.str "a", .int 0]]],
  .tup [.tup [.tup [.str "frozen", .tup []], .tup [.str "open", .tup [.tup [.str "y", .int 1], .tup [.str "x", .int 1]]]], .tup [.tup [.str "a", .int 0]]],
  .tup [.tup [.tup [.str "open", .tup [.tup [.str "x", .int 1], .tup [.str "x", .int 2]]]], .tup [.tup [.str "a", .int 0]]],
  .tup [.tup [.tup [.str "frozen", .tup []], .tup [.str "open", .tup [.tup [.str "x", .int 1], .tup [.str "x", .int 2]]]], .tup [.tup [.str "a", .int 0]]],
  .tup [.tup [.tup [.str "open", .tup [.tup [.str "X", .int 1]]]], .tup [.tup [.str "a", .int 0]]],
  .tup [.tup [.tup [.str "frozen", .tup []], .tup [.str "open", .tup [.tup [.str "X", .int 1]]]], .tup [.tup [.str "a", .int 0]]],
  .tup [.tup [.tup [.str "open", .tup [.lst [.str "x", .int 1]]]], .tup [.tup [.str "a", .int 0]]],
  .tup [.tup [.tup [.str "frozen", .tup []], .tup [.str "open", .tup [.lst [.str "x", .int 1]]]], .tup [.tup [.str "a", .int 0]]],
  .tup [.tup [.tup [.str "open", .tup [.tup [.str "v", .int 1], .tup [.str "w", .int 1], .tup [.str "x", .int 1], .tup [.str "y", .int 1], .tup [.str "z", .int 1]]]], .tup [.tup [.str "a", .int 0]]],
  .tup [.tup [.tup [.str "frozen", .tup []], .tup [.str "open", .tup [.tup [.str "v", .int 1], .tup [.str "w", .int 1], .tup [.str "x", .int 1], .tup [.str "y", .int 1], .tup [.str "z", .int 1]]]], .tup [.tup [.str "a", .int 0]]],
  .tup [.tup [.tup [.str "open", .tup [.tup [.str "x", .int 1]], .int 0]], .tup [.tup [.str "a", .int 0]]],
  .tup [.tup [.tup [.str "frozen", .tup []], .tup [.str "open", .tup [.tup [.str "x", .int 1]], .int 0]], .tup [.tup [.str "a", .int 0]]],
  .tup [.tup [.tup [.lst [.str "open"], .tup []]], .tup [.tup [.str "a", .int 0]]],
  .tup [.tup [.tup [.str "frozen", .tup []], .tup [.lst [.str "open"], .tup []]], .tup [.tup [.str "a", .int 0]]],
  .tup [.tup [.tup [.str "open", .dct []]], .tup [.tup [.str "a", .int 0]]],
  .tup [.tup [.tup [.str "frozen", .tup []], .tup [.str "open", .dct []]], .tup [.tup [.str "a", .int 0]]],
  .tup [.tup [.tup [.str "frozen", .tup []], .tup [.str "frozen", .tup []], .tup [.str "frozen", .tup []], .tup [.str "frozen", .tup []], .tup [.str "frozen", .tup []], .tup [.str "frozen", .tup []], .tup [.str "frozen", .tup []], .tup [.str "frozen", .tup []], .tup [.str "frozen", .tup []], .tup [.str "frozen", .tup []], .tup [.str "frozen", .tup []], .tup [.str "frozen", .tup []], .tup [.str "frozen", .tup []], .tup [.str "frozen", .tup []], .tup [.str "frozen", .tup []], .tup [.str "frozen", .tup []], .tup [.str "frozen", .tup []], .tup [.str "frozen", .tup []], .tup [.str "frozen", .tup []], .tup [.str "frozen", .tup []], .tup [.str "frozen", .tup []], .tup [.str "frozen", .tup []], .tup [.str "frozen", .tup []], .tup [.str "frozen", .tup []], .tup [.str "frozen", .tup []], .tup [.str "frozen", .tup []], .tup [.str "frozen", .tup []], .tup [.str "frozen", .tup []], .tup [.str "frozen", .tup []], .tup [.str "frozen", .tup []], .tup [.str "frozen", .tup []]], .tup [.tup [.str "a", .int 0]]],
  .tup [.tup [.tup [.str "frozen", .tup []], .tup [.str "frozen", .tup [.tup [.str "x", .tup [.int 2]]]]], .tup [.tup [.str "a", .int 0]]]]
def menu2 : List PV := [
  .tup [.non, .ref 1],
  .tup [.int 7, .ref 1],
  .tup [.ref 0, .non],
  .tup [.ref 0, .int 7],
  .tup [.ref 0, .tup [.non]],
  .tup [.ref 0, .tup [.int 7]],
  .tup [.ref 0, .tup [.tup [.str "a", .int 0], .non]],
  .tup [.ref 0, .tup [.tup [.str "a", .int 0], .tup [.str "c", .int 0], .tup [.str "b", .int 0]]],
  .tup [.ref 0, .tup [.tup [.str "a", .int 0], .tup [.str "b", .int 0], .tup [.str "b", .int 0]]],
  .tup [.ref 0, .tup [.tup [.str "a", .bl false]]],
  .tup [.ref 0, .tup [.tup [.str "a", .non]]],
  .tup [.ref 0, .tup [.tup [.str "b", .int 0], .tup [.str "a", .int 0], .tup [.str "c", .int 0]]],
  .tup [.ref 0, .tup [.tup [.str "a", .int 0], .tup [.str "a", .int 0], .tup [.str "b", .int 0]]],
  .tup [.ref 0, .tup [.lst [.str "a", .int 0], .tup [.str "b", .int 0]]],
  .tup [.ref 0, .tup [.tup [.str "a"], .tup [.str "b", .int 0]]],
  .tup [.ref 0, .tup [.non, .tup [.str "b", .int 0]]],
  .tup [.ref 0, .tup [.tup [.lst [.str "x"], .int 0]]],
  .tup [.ref 0, .tup [.tup [.str "a", .int 0], .tup [.lst [.str "x"], .int 0]]],
  .tup [.ref 0, .tup [.tup [.lst [.str "x"], .int 0], .tup [.str "zz", .int 0]]],
  .tup [.tup [.tup [.str "open", .tup [.tup [.lst [.str "x"], .int 1], .tup [.str "zz", .int 1]]]], .tup [.tup [.str "a", .int 0]]],
  .tup [.tup [.tup [.str "open", .tup [.tup [.lst [.str "x"], .int 1]]]], .tup [.tup [.str "a", .int 0]]],
  .tup [.tup [.tup [.str "open", .tup [.tup [.str "a", .int 1], .tup [.lst [.str "x"], .int 1]]]], .tup [.tup [.str "a", .int 0]]],
  .tup [.ref 0, .tup [.tup [.dct [], .int 0]]],
  .tup [.ref 0, .tup [.tup [.str "a", .int 0], .tup [.dct [], .int 0]]],
  .tup [.ref 0, .tup [.tup [.dct [], .int 0], .tup [.str "zz", .int 0]]],
  .tup [.tup [.tup [.str "open", .tup [.tup [.dct [], .int 1], .tup [.str "zz", .int 1]]]], .tup [.tup [.str "a", .int 0]]],
  .tup [.tup [.tup [.str "open", .tup [.tup [.dct [], .int 1]]]], .tup [.tup [.str "a", .int 0]]],
  .tup [.tup [.tup [.str "open", .tup [.tup [.str "a", .int 1], .tup [.dct [], .int 1]]]], .tup [.tup [.str "a", .int 0]]],
  .tup [.ref 0, .tup [.tup [.non, .int 0]]],
  .tup [.ref 0, .tup [.tup [.str "a", .int 0], .tup [.non, .int 0]]],
  .tup [.ref 0, .tup [.tup [.non, .int 0], .tup [.str "zz", .int 0]]],
  .tup [.tup [.tup [.str "open", .tup [.tup [.non, .int 1], .tup [.str "zz", .int 1]]]], .tup [.tup [.str "a", .int 0]]],
  .tup [.tup [.tup [.str "open", .tup [.tup [.non, .int 1]]]], .tup [.tup [.str "a", .int 0]]],
  .tup [.tup [.tup [.str "open", .tup [.tup [.str "a", .int 1], .tup [.non, .int 1]]]], .tup [.tup [.str "a", .int 0]]],
  .tup [.ref 0, .tup [.tup [.int 2, .int 0]]],
  .tup [.ref 0, .tup [.tup [.str "a", .int 0], .tup [.int 2, .int 0]]],
  .tup [.ref 0, .tup [.tup [.int 2, .int 0], .tup [.str "zz", .int 0]]],
  .tup [.tup [.tup [.str "open", .tup [.tup [.int 2, .int 1], .tup [.str "zz", .int 1]]]], .tup [.tup [.str "a", .int 0]]],
  .tup [.tup [.tup [.str "open", .tup [.tup [.int 2, .int 1]]]], .tup [.tup [.str "a", .int 0]]],
  .tup [.tup [.tup [.str "open", .tup [.tup [.str "a", .int 1], .tup [.int 2, .int 1]]]], .tup [.tup [.str "a", .int 0]]],
  .tup [.ref 0, .tup [.tup [.tup [.str "x"], .int 0]]],
  .tup [.ref 0, .tup [.tup [.str "a", .int 0], .tup [.tup [.str "x"], .int 0]]],
  .tup [.ref 0, .tup [.tup [.tup [.str "x"], .int 0], .tup [.str "zz", .int 0]]],
  .tup [.tup [.tup [.str "open", .tup [.tup [.tup [.str "x"], .int 1], .tup [.str "zz", .int 1]]]], .tup [.tup [.str "a", .int 0]]],
  .tup [.tup [.tup [.str "open", .tup [.tup [.tup [.str "x"], .int 1]]]], .tup [.tup [.str "a", .int 0]]],
  .tup [.tup [.tup [.str "open", .tup [.tup [.str "a", .int 1], .tup [.tup [.str "x"], .int 1]]]], .tup [.tup [.str "a", .int 0]]],
  .tup [.ref 0, .tup [.tup [.bl true, .int 0]]],
  .tup [.ref 0, .tup [.tup [.str "a", .int 0], .tup [.bl true, .int 0]]],
  .tup [.ref 0, .tup [.tup [.bl true, .int 0], .tup [.str "zz", .int 0]]],
  .tup [.tup [.tup [.str "open", .tup [.tup [.bl true, .int 1], .tup [.str "zz", .int 1]]]], .tup [.tup [.str "a", .int 0]]],
  .tup [.tup [.tup [.str "open", .tup [.tup [.bl true, .int 1]]]], .tup [.tup [.str "a", .int 0]]],
  .tup [.tup [.tup [.str "open", .tup [.tup [.str "a", .int 1], .tup [.bl true, .int 1]]]], .tup [.tup [.str "a", .int 0]]],
  .tup [.ref 0, .tup [.tup [.str "b1", .int 0]]],
  .tup [.ref 0, .tup [.tup [.str "a", .int 0], .tup [.str "b1", .int 0]]],
  .tup [.ref 0, .tup [.tup [.str "b1", .int 0], .tup [.str "zz", .int 0]]],
  .tup [.tup [.tup [.str "open", .tup [.tup [.str "b1", .int 1], .tup [.str "zz", .int 1]]]], .tup [.tup [.str "a", .int 0]]],
  .tup [.tup [.tup [.str "open", .tup [.tup [.str "b1", .int 1]]]], .tup [.tup [.str "a", .int 0]]],
  .tup [.tup [.tup [.str "open", .tup [.tup [.str "a", .int 1], .tup [.str "b1", .int 1]]]], .tup [.tup [.str "a", .int 0]]],
  .tup [.ref 0, .tup [.tup [.str "bB", .int 0]]],
  .tup [.ref 0, .tup [.tup [.str "a", .int 0], .tup [.str "bB", .int 0]]],
  .tup [.ref 0, .tup [.tup [.str "bB", .int 0], .tup [.str "zz", .int 0]]],
  .tup [.tup [.tup [.str "open", .tup [.tup [.str "bB", .int 1], .tup [.str "zz", .int 1]]]], .tup [.tup [.str "a", .int 0]]],
  .tup [.tup [.tup [.str "open", .tup [.tup [.str "bB", .int 1]]]], .tup [.tup [.str "a", .int 0]]],
  .tup [.tup [.tup [.str "open", .tup [.tup [.str "a", .int 1], .tup [.str "bB", .int 1]]]], .tup [.tup [.str "a", .int 0]]],
  .tup [.ref 0, .tup [.tup [.str "b c", .int 0]]],
  .tup [.ref 0, .tup [.tup [.str "a", .int 0], .tup [.str "b c", .int 0]]],
  .tup [.ref 0, .tup [.tup [.str "b c", .int 0], .tup [.str "zz", .int 0]]],
  .tup [.tup [.tup [.str "open", .tup [.tup [.str "b c", .int 1], .tup [.str "zz", .int 1]]]], .tup [.tup [.str "a", .int 0]]],
  .tup [.tup [.tup [.str "open", .tup [.tup [.str "b c", .int 1]]]], .tup [.tup [.str "a", .int 0]]],
  .tup [.tup [.tup [.str "open", .tup [.tup [.str "a", .int 1], .tup [.str "b c", .int 1]]]], .tup [.tup [.str "a", .int 0]]],
  .tup [.ref 0, .tup [.tup [.str "bcdefghij", .int 0]]],
  .tup [.ref 0, .tup [.tup [.str "a", .int 0], .tup [.str "bcdefghij", .int 0]]],
  .tup [.ref 0, .tup [.tup [.str "bcdefghij", .int 0], .tup [.str "zz", .int 0]]],
  .tup [.tup [.tup [.str "open", .tup [.tup [.str "bcdefghij", .int 1], .tup [.str "zz", .int 1]]]], .tup [.tup [.str "a", .int 0]]],
  .tup [.tup [.tup [.str "open", .tup [.tup [.str "bcdefghij", .int 1]]]], .tup [.tup [.str "a", .int 0]]],
  .tup [.tup [.tup [.str "open", .tup [.tup [.str "a", .int 1], .tup [.str "bcdefghij", .int 1]]]], .tup [.tup [.str "a", .int 0]]],
  .tup [.ref 0, .tup [.tup [.str "b\n", .int 0]]],
  .tup [.ref 0, .tup [.tup [.str "a", .int 0], .tup [.str "b\n", .int 0]]],
  .tup [.ref 0, .tup [.tup [.str "b\n", .int 0], .tup [.str "zz", .int 0]]],
  .tup [.tup [.tup [.str "open", .tup [.tup [.str "b\n", .int 1], .tup [.str "zz", .int 1]]]], .tup [.tup [.str "a", .int 0]]],
  .tup [.tup [.tup [.str "open", .tup [.tup [.str "b\n", .int 1]]]], .tup [.tup [.str "a", .int 0]]],
  .tup [.tup [.tup [.str "open", .tup [.tup [.str "a", .int 1], .tup [.str "b\n", .int 1]]]], .tup [.tup [.str "a", .int 0]]],
  .tup [.ref 0, .tup [.tup [.str "A", .int 0]]],
  .tup [.ref 0, .tup [.tup [.str "a", .int 0], .tup [.str "A", .int 0]]],
  .tup [.ref 0, .tup [.tup [.str "A", .int 0], .tup [.str "zz", .int 0]]],
  .tup [.tup [.tup [.str "open", .tup [.tup [.str "A", .int 1], .tup [.str "zz", .int 1]]]], .tup [.tup [.str "a", .int 0]]],
  .tup [.tup [.tup [.str "open", .tup [.tup [.str "A", .int 1]]]], .tup [.tup [.str "a", .int 0]]],
  .tup [.tup [.tup [.str "open", .tup [.tup [.str "a", .int 1], .tup [.str "A", .int 1]]]], .tup [.tup [.str "a", .int 0]]],
  .tup [.ref 0, .tup [.tup [.str "", .int 0]]],
  .tup [.ref 0, .tup [.tup [.str "a", .int 0], .tup [.str "", .int 0]]],
  .tup [.ref 0, .tup [.tup [.str "", .int 0], .tup [.str "zz", .int 0]]],
  .tup [.tup [.tup [.str "open", .tup [.tup [.str "", .int 1], .tup [.str "zz", .int 1]]]], .tup [.tup [.str "a", .int 0]]],
  .tup [.tup [.tup [.str "open", .tup [.tup [.str "", .int 1]]]], .tup [.tup [.str "a", .int 0]]],
  .tup [.tup [.tup [.str "open", .tup [.tup [.str "a", .int 1], .tup [.str "", .int 1]]]], .tup [.tup [.str "a", .int 0]]],
  .tup [.ref 0, .tup [.tup [.str "a1", .int 0]]],
  .tup [.ref 0, .tup [.tup [.str "a", .int 0], .tup [.str "a1", .int 0]]],
  .tup [.ref 0, .tup [.tup [.str "a1", .int 0], .tup [.str "zz", .int 0]]],
  .tup [.tup [.tup [.str "open", .tup [.tup [.str "a1", .int 1], .tup [.str "zz", .int 1]]]], .tup [.tup [.str "a", .int 0]]],
  .tup [.tup [.tup [.str "open", .tup [.tup [.str "a1", .int 1]]]], .tup [.tup [.str "a", .int 0]]],
  .tup [.tup [.tup [.str "open", .tup [.tup [.str "a", .int 1], .tup [.str "a1", .int 1]]]], .tup [.tup [.str "a", .int 0]]],
  .tup [.ref 0, .tup [.tup [.str "a c", .int 0]]],
  .tup [.ref 0, .tup [.tup [.str "a", .int 0], .tup [.str "a c", .int 0]]],
  .tup [.ref 0, .tup [.tup [.str "a c", .int 0], .tup [.str "zz", .int 0]]],
  .tup [.tup [.tup [.str "open", .tup [.tup [.str "a c", .int 1], .tup [.str "zz", .int 1]]]], .tup [.tup [.str "a", .int 0]]],
  .tup [.tup [.tup [.str "open", .tup [.tup [.str "a c", .int 1]]]], .tup [.tup [.str "a", .int 0]]],
  .tup [.tup [.tup [.str "open", .tup [.tup [.str "a", .int 1], .tup [.str "a c", .int 1]]]], .tup [.tup [.str "a", .int 0]]],
  .tup [.ref 0, .tup [.tup [.str "b{", .int 0]]],
  .tup [.ref 0, .tup [.tup [.str "a", .int 0], .tup [.str "b{", .int 0]]],
  .tup [.ref 0, .tup [.tup [.str "b{", .int 0], .tup [.str "zz", .int 0]]],
  .tup [.tup [.tup [.str "open", .tup [.tup [.str "b{", .int 1], .tup [.str "zz", .int 1]]]], .tup [.tup [.str "a", .int 0]]],
  .tup [.tup [.tup [.str "open", .tup [.tup [.str "b{", .int 1]]]], .tup [.tup [.str "a", .int 0]]],
  .tup [.tup [.tup [.str "open", .tup [.tup [.str "a", .int 1], .tup [.str "b{", .int 1]]]], .tup [.tup [.str "a", .int 0]]],
  .tup [.ref 0, .tup [.tup [.str "b~", .int 0]]],
  .tup [.ref 0, .tup [.tup [.str "a", .int 0], .tup [.str "b~", .int 0]]],
  .tup [.ref 0, .tup [.tup [.str "b~", .int 0], .tup [.str "zz", .int 0]]],
  .tup [.tup [.tup [.str "open", .tup [.tup [.str "b~", .int 1], .tup [.str "zz", .int 1]]]], .tup [.tup [.str "a", .int 0]]],
  .tup [.tup [.tup [.str "open", .tup [.tup [.str "b~", .int 1]]]], .tup [.tup [.str "a", .int 0]]],
  .tup [.tup [.tup [.str "open", .tup [.tup [.str "a", .int 1], .tup [.str "b~", .int 1]]]], .tup [.tup [.str "a", .int 0]]],
  .tup [.ref 0, .tup [.tup [.str "b|", .int 0]]],
  .tup [.ref 0, .tup [.tup [.str "a", .int 0], .tup [.str "b|", .int 0]]],
  .tup [.ref 0, .tup [.tup [.str "b|", .int 0], .tup [.str "zz", .int 0]]],
  .tup [.tup [.tup [.str "open", .tup [.tup [.str "b|", .int 1], .tup [.str "zz", .int 1]]]], .tup [.tup [.str "a", .int 0]]],
  .tup [.tup [.tup [.str "open", .tup [.tup [.str "b|", .int 1]]]], .tup [.tup [.str "a", .int 0]]],
  .tup [.tup [.tup [.str "open", .tup [.tup [.str "a", .int 1], .tup [.str "b|", .int 1]]]], .tup [.tup [.str "a", .int 0]]],
  .tup [.ref 0, .tup [.tup [.str "}", .int 0]]],
  .tup [.ref 0, .tup [.tup [.str "a", .int 0], .tup [.str "}", .int 0]]],
  .tup [.ref 0, .tup [.tup [.str "}", .int 0], .tup [.str "zz", .int 0]]],
  .tup [.tup [.tup [.str "open", .tup [.tup [.str "}", .int 1], .tup [.str "zz", .int 1]]]], .tup [.tup [.str "a", .int 0]]],
  .tup [.tup [.tup [.str "open", .tup [.tup [.str "}", .int 1]]]], .tup [.tup [.str "a", .int 0]]],
  .tup [.tup [.tup [.str "open", .tup [.tup [.str "a", .int 1], .tup [.str "}", .int 1]]]], .tup [.tup [.str "a", .int 0]]],
  .tup [.tup [.tup [.str "open", .tup [.tup [.str "a", .int 1], .tup [.str "c", .int 1], .tup [.str "b", .int 1]]]], .tup [.tup [.str "a", .int 0]]],
  .tup [.tup [.tup [.str "open", .tup [.tup [.str "a", .int 1], .tup [.str "b", .int 1], .tup [.str "b", .int 2]]]], .tup [.tup [.str "a", .int 0]]],
  .tup [.tup [.tup [.str "open", .tup [.non]]], .tup [.tup [.str "a", .int 0]]],
  .tup [.tup [.tup [.str "open", .tup [.int 7]]], .tup [.tup [.str "a", .int 0]]],
  .tup [.tup [.tup [.str "open", .tup [.tup [.str "x", .tup [.non]]]]], .tup [.tup [.str "a", .int 0]]],
  .tup [.tup [.tup [.str "open", .tup [.tup [.str "b", .int 1], .tup [.str "a", .int 1], .tup [.str "c", .int 1]]]], .tup [.tup [.str "a", .int 0]]],
  .tup [.tup [.tup [.str "open", .tup [.tup [.str "a", .int 1], .tup [.str "a", .int 2], .tup [.str "b", .int 1]]]], .tup [.tup [.str "a", .int 0]]],
  .tup [.tup [.tup [.str "open", .tup [.tup [.str "x", .int 1], .tup [.str "x", .tup [.int 0]]]]], .tup [.tup [.str "a", .int 0]]],
  .tup [.tup [.tup [.str "open", .tup [.tup [.str "x", .tup [.bl false]]]]], .tup [.tup [.str "a", .int 0]]],
  .tup [.tup [.tup [.str "open", .tup [.tup [.str "a", .int 1], .tup [.str "x", .int 1, .int 1]]]], .tup [.tup [.str "a", .int 0]]],
  .tup [.tup [.tup [.str "open", .tup [.tup [.str "x", .tup [.str "a"]]]]], .tup [.tup [.str "a", .int 0]]],
  .tup [.tup [.tup [.str "open", .tup [.tup [.str "x", .tup [.tup [.int 0]]]]]], .tup [.tup [.str "a", .int 0]]],
  .tup [.tup [.tup [.str "open", .tup [.tup [.str "x", .bl false]]]], .tup [.tup [.str "a", .int 0]]],
  .tup [.tup [.tup [.str "open", .tup [.tup [.str "a", .int 1], .non]]], .tup [.tup [.str "a", .int 0]]],
  .tup [.tup [.tup [.str "open", .tup [.tup [.str "x", .dct []]]]], .tup [.tup [.str "a", .int 0]]],
  .tup [.tup [.tup [.str "open", .tup []], .tup [.str "frozen", .tup []], .non], .tup [.tup [.str "a", .int 0]]],
  .tup [.tup [.tup [.str "frozen", .tup []], .tup [.str "frozen", .tup []], .tup [.str "frozen", .tup []], .tup [.str "frozen", .tup []], .tup [.str "frozen", .tup []], .non, .tup [.str "open", .tup []]], .tup [.tup [.str "a", .int 0]]],
  .tup [.tup [.tup [.str "open", .tup []], .tup [.str "frozen", .tup []], .tup [.str "open", .tup [], .int 0]], .tup [.tup [.str "a", .int 0]]],
  .tup [.tup [.tup [.str "frozen", .tup []], .tup [.str "frozen", .tup []], .tup [.str "frozen", .tup []], .tup [.str "frozen", .tup []], .tup [.str "frozen", .tup []], .tup [.str "open", .tup [], .int 0], .tup [.str "open", .tup []]], .tup [.tup [.str "a", .int 0]]],
  .tup [.tup [.tup [.str "open", .tup []], .tup [.str "frozen", .tup []], .tup [.str "thawed", .tup []]], .tup [.tup [.str "a", .int 0]]],
  .tup [.tup [.tup [.str "frozen", .tup []], .tup [.str "frozen", .tup []], .tup [.str "frozen", .tup []], .tup [.str "frozen", .tup []], .tup [.str "frozen", .tup []], .tup [.str "thawed", .tup []], .tup [.str "open", .tup []]], .tup [.tup [.str "a", .int 0]]],
  .tup [.tup [.tup [.str "open", .tup []], .tup [.str "frozen", .tup []], .int 7], .tup [.tup [.str "a", .int 0]]],
  .tup [.tup [.tup [.str "frozen", .tup []], .tup [.str "frozen", .tup []], .tup [.str "frozen", .tup []], .tup [.str "frozen", .tup []], .tup [.str "frozen", .tup []], .int 7, .tup [.str "open", .tup []]], .tup [.tup [.str "a", .int 0]]],
  .tup [.tup [.tup [.str "open", .tup []], .tup [.str "frozen", .tup []], .tup [.str "open", .tup [.tup [.str "x", .tup [.int 9]]]]], .tup [.tup [.str "a", .int 0]]],
  .tup [.tup [.tup [.str "frozen", .tup []], .tup [.str "frozen", .tup []], .tup [.str "frozen", .tup []], .tup [.str "frozen", .tup []], .tup [.str "frozen", .tup []], .tup [.str "open", .tup [.tup [.str "x", .tup [.int 9]]]], .tup [.str "open", .tup []]], .tup [.tup [.str "a", .int 0]]],
  .tup [.tup [.tup [.str "open", .tup []], .tup [.str "frozen", .tup []], .lst [.str "frozen", .tup []]], .tup [.tup [.str "a", .int 0]]],
  .tup [.tup [.tup [.str "frozen", .tup []], .tup [.str "frozen", .tup []], .tup [.str "frozen", .tup []], .tup [.str "frozen", .tup []], .tup [.str "frozen", .tup []], .lst [.str "frozen", .tup []], .tup [.str "open", .tup []]], .tup [.tup [.str "a", .int 0]]]]
def w_no_webs (F : MF) : MS := (cSeq (cSet (.many [5, 6]) (mVar 0))
  (cSeq (cSet (.one 1) (mApp sTup (mCons (mC (.str "frozen")) (mCons (mApp sTup mNil) mNil))))
  (cSeq (cSet (.one 2) (mApp sLstF (mCons (mC .non) (mCons (mC (.bl true)) (mCons (mC (.int 0)) (mCons (mC (.str "web")) (mCons (mApp sLstF mNil) (mCons (mApp sTup mNil) (mCons (mApp sLstF (mCons (mVar 5) (mCons (mVar 6) mNil))) (mCons (mApp sTup (mCons (mVar 5) mNil)) (mCons (mApp sTup (mCons (mVar 5) (mCons (mVar 6) (mCons (mApp sTup mNil) mNil)))) mNil)))))))))))
  (cSeq (cSet (.one 2) (mBin sAdd (mVar 2) (mApp sLstF (mCons (mApp sTup (mCons (mApp sListF (mCons (mVar 5) mNil)) (mCons (mVar 6) mNil))) mNil))))
  (cSeq (cSet (.one 2) (mBin sAdd (mVar 2) (mApp sLstF (mCons (mApp sTup (mCons (mVar 5) (mCons (mApp sListF (mCons (mVar 6) mNil)) mNil))) (mCons (mApp sTup (mCons (mApp sTup mNil) (mCons (mApp sTup (mCons (mApp sTup (mCons (mC (.str "a")) (mCons (mC (.int 0)) mNil))) mNil)) mNil))) (mCons (mApp sTup (mCons (mVar 5) (mCons (mApp sTup mNil) mNil))) mNil))))))
  (cSeq (cSet (.one 2) (mBin sAdd (mVar 2) (mApp sLstF (mCons (mApp sTup (mCons (mVar 5) (mCons (mApp sTup (mCons (mApp sTup (mCons (mC (.str "a")) (mCons (mApp sLen (mCons (mVar 5) mNil)) mNil))) mNil)) mNil))) (mCons (mApp sTup (mCons (mVar 5) (mCons (mApp sTup (mCons (mApp sTup (mCons (mC (.str "a")) (mCons (mBin sSub (mC (.int 0)) (mC (.int 1))) mNil))) mNil)) mNil))) mNil)))))
  (cSeq (cSet (.one 2) (mBin sAdd (mVar 2) (mApp sLstF (mCons (mApp sTup (mCons (mVar 5) (mCons (mApp sTup (mCons (mApp sTup (mCons (mC (.str "a")) (mCons (mC (.bl true)) mNil))) mNil)) mNil))) (mCons (mApp sTup (mCons (mVar 5) (mCons (mApp sTup (mCons (mApp sTup (mCons (mC (.str "A")) (mCons (mC (.int 0)) mNil))) mNil)) mNil))) (mCons (mApp sTup (mCons (mVar 5) (mCons (mApp sTup (mCons (mApp sTup (mCons (mC (.str "")) (mCons (mC (.int 0)) mNil))) mNil)) mNil))) mNil))))))
  (cSeq (cSet (.one 2) (mBin sAdd (mVar 2) (mApp sLstF (mCons (mApp sTup (mCons (mVar 5) (mCons (mApp sTup (mCons (mApp sTup (mCons (mC (.str "abcdefghi")) (mCons (mC (.int 0)) mNil))) mNil)) mNil))) mNil))))
  (cSeq (cSet (.one 2) (mBin sAdd (mVar 2) (mApp sLstF (mCons (mApp sTup (mCons (mVar 5) (mCons (mApp sTup (mCons (mApp sTup (mCons (mC (.str "b")) (mCons (mC (.int 0)) mNil))) (mCons (mApp sTup (mCons (mC (.str "a")) (mCons (mC (.int 0)) mNil))) mNil))) mNil))) (mCons (mApp sTup (mCons (mVar 5) (mCons (mApp sTup (mCons (mApp sTup (mCons (mC (.str "a")) (mCons (mC (.int 0)) mNil))) (mCons (mApp sTup (mCons (mC (.str "a")) (mCons (mC (.int 0)) mNil))) mNil))) mNil))) mNil)))))
  (cSeq (cSet (.one 2) (mBin sAdd (mVar 2) (mApp sLstF (mCons (mApp sTup (mCons (mVar 5) (mCons (mApp sTup (mCons (mApp sLstF (mCons (mC (.str "a")) (mCons (mC (.int 0)) mNil))) mNil)) mNil))) (mCons (mApp sTup (mCons (mVar 5) (mCons (mApp sTup (mCons (mApp sTup (mCons (mC (.str "a")) mNil)) mNil)) mNil))) mNil)))))
  (cSeq (cSet (.one 2) (mBin sAdd (mVar 2) (mApp sLstF (mCons (mApp sTup (mCons (mVar 5) (mCons (mApp sTup (mCons (mApp sTup (mCons (mC (.str "a")) (mCons (mC (.int 0)) (mCons (mC (.int 0)) mNil)))) mNil)) mNil))) (mCons (mApp sTup (mCons (mVar 5) (mCons (mApp sTup (mCons (mApp sTup (mCons (mC (.int 1)) (mCons (mC (.int 0)) mNil))) mNil)) mNil))) mNil)))))
  (cSeq (cSet (.one 2) (mBin sAdd (mVar 2) (mApp sLstF (mCons (mApp sTup (mCons (mVar 5) (mCons (mApp sTuple (mCons (mLc (mIter (mC (.str "abcdefg"))) (.one 7) bYes (mApp sTup (mCons (mVar 7) (mCons (mC (.int 0)) mNil))) [7]) mNil)) mNil))) mNil))))
  (cSeq (cSet (.one 3) (mApp sLstF (mCons (mC .non) (mCons (mC (.str "open")) (mCons (mApp sTup (mCons (mC (.str "open")) mNil)) (mCons (mApp sLstF (mCons (mC (.str "open")) (mCons (mApp sTup mNil) mNil))) (mCons (mApp sTup (mCons (mC (.str "Open")) (mCons (mApp sTup mNil) mNil))) (mCons (mApp sTup (mCons (mC (.str "closed")) (mCons (mApp sTup mNil) mNil))) (mCons (mApp sTup (mCons (mC .non) (mCons (mApp sTup mNil) mNil))) mNil)))))))))
  (cSeq (cSet (.one 3) (mBin sAdd (mVar 3) (mApp sLstF (mCons (mApp sTup (mCons (mC (.str "open")) (mCons (mApp sLstF mNil) mNil))) (mCons (mApp sTup (mCons (mC (.str "open")) (mCons (mC .non) mNil))) mNil)))))
  (cSeq (cSet (.one 3) (mBin sAdd (mVar 3) (mApp sLstF (mCons (mApp sTup (mCons (mC (.str "open")) (mCons (mApp sTup (mCons (mApp sTup (mCons (mC (.int 1)) (mCons (mC (.int 1)) mNil))) mNil)) mNil))) (mCons (mApp sTup (mCons (mC (.str "open")) (mCons (mApp sTup (mCons (mApp sTup (mCons (mC (.str "x")) (mCons (mC .non) mNil))) mNil)) mNil))) (mCons (mApp sTup (mCons (mC (.str "open")) (mCons (mApp sTup (mCons (mApp sTup (mCons (mC (.str "x")) (mCons (mC (.bl true)) mNil))) mNil)) mNil))) mNil))))))
  (cSeq (cSet (.one 3) (mBin sAdd (mVar 3) (mApp sLstF (mCons (mApp sTup (mCons (mC (.str "open")) (mCons (mApp sTup (mCons (mApp sTup (mCons (mC (.str "x")) (mCons (mC (.str "y")) mNil))) mNil)) mNil))) mNil))))
  (cSeq (cSet (.one 3) (mBin sAdd (mVar 3) (mApp sLstF (mCons (mApp sTup (mCons (mC (.str "open")) (mCons (mApp sTup (mCons (mApp sTup (mCons (mC (.str "x")) (mCons (mApp sTup (mCons (mC (.int 99)) mNil)) mNil))) mNil)) mNil))) (mCons (mApp sTup (mCons (mC (.str "open")) (mCons (mApp sTup (mCons (mApp sTup (mCons (mC (.str "x")) (mCons (mApp sTup (mCons (mBin sSub (mC (.int 0)) (mC (.int 1))) mNil)) mNil))) mNil)) mNil))) (mCons (mApp sTup (mCons (mC (.str "open")) (mCons (mApp sTup (mCons (mApp sTup (mCons (mC (.str "x")) (mCons (mApp sTup mNil) mNil))) mNil)) mNil))) mNil))))))
  (cSeq (cSet (.one 3) (mBin sAdd (mVar 3) (mApp sLstF (mCons (mApp sTup (mCons (mC (.str "open")) (mCons (mApp sTup (mCons (mApp sTup (mCons (mC (.str "x")) (mCons (mApp sTup (mCons (mC (.int 0)) (mCons (mC (.int 0)) mNil))) mNil))) mNil)) mNil))) mNil))))
  (cSeq (cSet (.one 3) (mBin sAdd (mVar 3) (mApp sLstF (mCons (mApp sTup (mCons (mC (.str "open")) (mCons (mApp sTup (mCons (mApp sTup (mCons (mC (.str "x")) (mCons (mApp sLstF (mCons (mC (.int 0)) mNil)) mNil))) mNil)) mNil))) (mCons (mApp sTup (mCons (mC (.str "open")) (mCons (mApp sTup (mCons (mApp sTup (mCons (mC (.str "x")) (mCons (mApp sTup (mCons (mC (.bl true)) mNil)) mNil))) mNil)) mNil))) (mCons (mApp sTup (mCons (mC (.str "open")) (mCons (mApp sTup (mCons (mApp sTup (mCons (mC (.str "x")) (mCons (mBin sPow (mC (.int 10)) (mC (.int 9))) mNil))) mNil)) mNil))) mNil))))))
  (cSeq (cSet (.one 3) (mBin sAdd (mVar 3) (mApp sLstF (mCons (mApp sTup (mCons (mC (.str "open")) (mCons (mApp sTup (mCons (mApp sTup (mCons (mC (.str "x")) (mCons (mBin sSub (mC (.int 0)) (mBin sPow (mC (.int 10)) (mC (.int 9)))) mNil))) mNil)) mNil))) mNil))))
  (cSeq (cSet (.one 3) (mBin sAdd (mVar 3) (mApp sLstF (mCons (mApp sTup (mCons (mC (.str "open")) (mCons (mApp sTup (mCons (mApp sTup (mCons (mC (.str "y")) (mCons (mC (.int 1)) mNil))) (mCons (mApp sTup (mCons (mC (.str "x")) (mCons (mC (.int 1)) mNil))) mNil))) mNil))) (mCons (mApp sTup (mCons (mC (.str "open")) (mCons (mApp sTup (mCons (mApp sTup (mCons (mC (.str "x")) (mCons (mC (.int 1)) mNil))) (mCons (mApp sTup (mCons (mC (.str "x")) (mCons (mC (.int 2)) mNil))) mNil))) mNil))) (mCons (mApp sTup (mCons (mC (.str "open")) (mCons (mApp sTup (mCons (mApp sTup (mCons (mC (.str "X")) (mCons (mC (.int 1)) mNil))) mNil)) mNil))) mNil))))))
  (cSeq (cSet (.one 3) (mBin sAdd (mVar 3) (mApp sLstF (mCons (mApp sTup (mCons (mC (.str "open")) (mCons (mApp sTup (mCons (mApp sLstF (mCons (mC (.str "x")) (mCons (mC (.int 1)) mNil))) mNil)) mNil))) mNil))))
  (cSeq (cSet (.one 3) (mBin sAdd (mVar 3) (mApp sLstF (mCons (mApp sTup (mCons (mC (.str "open")) (mCons (mApp sTuple (mCons (mLc (mIter (mC (.str "vwxyz"))) (.one 7) bYes (mApp sTup (mCons (mVar 7) (mCons (mC (.int 1)) mNil))) [7]) mNil)) mNil))) (mCons (mApp sTup (mCons (mC (.str "open")) (mCons (mApp sTup (mCons (mApp sTup (mCons (mC (.str "x")) (mCons (mC (.int 1)) mNil))) mNil)) (mCons (mC (.int 0)) mNil)))) mNil)))))
  (cSeq (cSet (.one 3) (mBin sAdd (mVar 3) (mApp sLstF (mCons (mApp sTup (mCons (mApp sLstF (mCons (mC (.str "open")) mNil)) (mCons (mApp sTup mNil) mNil))) (mCons (mApp sTup (mCons (mC (.str "open")) (mCons (mC (.dct [])) mNil))) mNil)))))
  (cSeq (cFor (mIter (mVar 3)) (.one 4)
  (cSet (.one 2) (mBin sAdd (mVar 2) (mApp sLstF (mCons (mApp sTup (mCons (mApp sTup (mCons (mVar 4) mNil)) (mCons (mApp sTup (mCons (mApp sTup (mCons (mC (.str "a")) (mCons (mC (.int 0)) mNil))) mNil)) mNil))) (mCons (mApp sTup (mCons (mApp sTup (mCons (mVar 1) (mCons (mVar 4) mNil))) (mCons (mApp sTup (mCons (mApp sTup (mCons (mC (.str "a")) (mCons (mC (.int 0)) mNil))) mNil)) mNil))) mNil))))))
  (cSeq (cSet (.one 2) (mBin sAdd (mVar 2) (mApp sLstF (mCons (mApp sTup (mCons (mBin sMul (mApp sTup (mCons (mVar 1) mNil)) (mC (.int 31))) (mCons (mApp sTup (mCons (mApp sTup (mCons (mC (.str "a")) (mCons (mC (.int 0)) mNil))) mNil)) mNil))) (mCons (mApp sTup (mCons (mApp sTup (mCons (mVar 1) (mCons (mApp sTup (mCons (mC (.str "frozen")) (mCons (mApp sTup (mCons (mApp sTup (mCons (mC (.str "x")) (mCons (mApp sTup (mCons (mC (.int 2)) mNil)) mNil))) mNil)) mNil))) mNil))) (mCons (mApp sTup (mCons (mApp sTup (mCons (mC (.str "a")) (mCons (mC (.int 0)) mNil))) mNil)) mNil))) mNil)))))
  (cRet (mBin sAdd (mVar 2) (mApp (fnN 2 F) (mCons (mVar 5) (mCons (mVar 6) mNil)))))))))))))))))))))))))))))))

def holes (os ns : List PV) : Nat → PV
  | 0 => .tup os
  | 1 => .tup ns
  | 2 => .lst os
  | 3 => .lst ns
  | 4 => .int os.length
  | _ => .non
set_option maxHeartbeats 0 in
theorem no_webs_body (F : MF) (os ns : List PV) (st : Sto) : w_no_webs F [some (.tup [.tup os, .tup ns]), none, none, none, none, none, none, none] st =
    cRet (mBin sAdd (mC (.lst (inss (holes os ns) menu1))) (mApp (fnN 2 F) (mCons (mC (.tup os)) (mCons (mC (.tup ns)) mNil)))) [] st := by kernel_rfl
def outRef : Out → Nat
  | .rt (.ref j) _ => j
  | _ => 0
def outSto : Out → Sto
  | .rt _ s => s
  | _ => []
abbrev bodyM (os ns : List PV) (x0 : MO) : Out := m__law_no_more [some (.tup os), some (.tup ns), none, none, none, none, none, none] [x0]
set_option maxHeartbeats 0 in
theorem no_more1 (os ns : List PV) (x0 : MO) : bodyM os ns x0 = .rt (.ref (outRef (bodyM os ns x0))) (outSto (bodyM os ns x0)) := by kernel_rfl
set_option maxHeartbeats 0 in
theorem no_more2 (os ns : List PV) (x0 : MO) : (outSto (bodyM os ns x0))[outRef (bodyM os ns x0)]? = some (.lst (inss (holes os ns) menu2)) := by kernel_rfl
set_option maxHeartbeats 0 in
theorem no_more3 (os ns : List PV) (x0 : MO) : (outSto (bodyM os ns x0)).take 1 = [x0] := by kernel_rfl
set_option maxHeartbeats 0 in
theorem no_more4 (os ns : List PV) (x0 : MO) : decide (1 ≤ outRef (bodyM os ns x0)) = true := by kernel_rfl
theorem no_more_body (os ns : List PV) (x0 : MO) : ∃ j s, m__law_no_more [some (.tup os), some (.tup ns), none, none, none, none, none, none] [x0] = .rt (.ref j) s ∧ s[j]? = some (.lst (inss (holes os ns) menu2)) ∧ s.take 1 = [x0] ∧ decide (1 ≤ j) = true :=
  ⟨_, _, no_more1 os ns x0, no_more2 os ns x0, no_more3 os ns x0, no_more4 os ns x0⟩
end K01

set_option Elab.async false
set_option linter.all false
set_option maxRecDepth 100000
set_option maxHeartbeats 1000000
namespace K01
open PySem PySem.Spec PyProof.Rows L2 Sim Pg
mutual
def cl : PV → Bool
  | .ref _ => false
  | .tup xs => cls xs
  | .lst xs => cls xs
  | _ => true
def cls : List PV → Bool
  | [] => true
  | x :: xs => cl x && cls xs
end
mutual
theorem ins_cl (ρ : Nat → PV) : ∀ {x : PV}, cl x = true → ins ρ x = x
  | .ref _, h => nomatch h
  | .non, _ => by simp [ins]
  | .bl _, _ => by simp [ins]
  | .int _, _ => by simp [ins]
  | .str _, _ => by simp [ins]
  | .tup xs, h => by simp only [cl] at h; simp only [ins, inss_cl ρ h]
  | .lst xs, h => by simp only [cl] at h; simp only [ins, inss_cl ρ h]
  | .dct _, _ => by simp [ins]
  | .rol _, _ => by simp [ins]
  | .raw _, _ => by simp [ins]
  | .wtp _, _ => by simp [ins]
  | .err _, _ => by simp [ins]
theorem inss_cl (ρ : Nat → PV) : ∀ {xs : List PV}, cls xs = true → inss ρ xs = xs
  | [], _ => by simp [inss]
  | x :: xs, h => by
    simp only [cls, Bool.and_eq_true] at h
    simp only [inss, ins_cl ρ h.1, inss_cl ρ h.2]
end
mutual
theorem pl_ins {ρ : Nat → PV} (hρ : ∀ k, pl (ρ k) = true) : ∀ {x : PV}, pl x = true → pl (ins ρ x) = true
  | .ref k, _ => by simp only [ins]; exact hρ k
  | .non, _ => by simp [ins, pl]
  | .bl _, _ => by simp [ins, pl]
  | .int _, _ => by simp [ins, pl]
  | .str _, _ => by simp [ins, pl]
  | .tup xs, h => by simp only [pl] at h; simp only [ins, pl]; exact pls_ins hρ h
  | .lst xs, h => by simp only [pl] at h; simp only [ins, pl]; exact pls_ins hρ h
  | .dct _, h => nomatch h
  | .rol _, _ => by simp [ins, pl]
  | .raw _, _ => by simp [ins, pl]
  | .wtp _, _ => by simp [ins, pl]
  | .err _, _ => by simp [ins, pl]
theorem pls_ins {ρ : Nat → PV} (hρ : ∀ k, pl (ρ k) = true) : ∀ {xs : List PV}, pls xs = true → pls (inss ρ xs) = true
  | [], _ => by simp [inss, pls]
  | x :: xs, h => by
    simp only [pls, Bool.and_eq_true] at h
    simp only [inss, pls, pl_ins hρ h.1, pls_ins hρ h.2, Bool.and_self]
end
def kindsT : PV → Bool
  | .tup [.ref 0, _] => true
  | .tup [.ref 2, _] => true
  | .tup [.ref _, _] => false
  | .tup [.tup os, _] => os.all fun o => match o with
    | .tup [k, _] => cl k && plainP k
    | .ref _ => false
    | _ => true
  | .ref _ => false
  | _ => true
def namesT : PV → Bool
  | .tup [_, h] => pl h || (cl h && !tableP 0 6 h)
  | .ref _ => false
  | _ => true
def dpH (k : Nat) : Nat := if k < 4 then 7 else 0
def tmplOk (x : PV) : Bool := nvT dpH 8 x && (decide (szT 40000 x ≤ 1000000) && (kindsT x && namesT x))
section
variable {os ns : List PV} (W : WebOk os ns)
include W
theorem holes_nv : ∀ k, nv (dpH k) (holes os ns k) = true := by
  have h1 : nvs 6 os = true := nvs_iff.mpr fun x hx => ((W.os x hx).n).v
  have h2 : nvs 6 ns = true := nvs_iff.mpr fun x hx => ((W.ns x hx).n (by have := W.most; omega)).v
  intro k
  unfold holes
  split
  · exact h1
  · exact h2
  · exact h1
  · exact h2
  · have := W.most; exact int_nv (by omega) (by omega)
  · rfl
theorem holes_pl : ∀ k, pl (holes os ns k) = true := by
  have h1 : pls os = true := pls_iff.mpr fun x hx => (W.os x hx).hpl
  have h2 : pls ns = true := pls_iff.mpr fun x hx => ((W.ns x hx).n (by have := W.most; omega)).p
  intro k
  unfold holes
  split
  · exact h1
  · exact h2
  · exact h1
  · exact h2
  · rfl
  · rfl
theorem holes_sz : ∀ k, sz (holes os ns k) ≤ 40000 := by
  have h1 : szs os ≤ 40000 := by
    have s1 := szs_le fun x hx => ((W.os x hx).n).s
    have l1 : os.length * (1000 + 1) ≤ 30 * 1001 := Nat.mul_le_mul_right _ W.most
    omega
  have h2 : szs ns ≤ 40000 := by
    have s1 := szs_le fun x hx => ((W.ns x hx).n (by have := W.most; omega)).s
    have l1 : ns.length * (100 + 1) ≤ 6 * 101 := Nat.mul_le_mul_right _ W.n6
    omega
  intro k
  unfold holes
  split
  · exact h1
  · exact h2
  · exact h1
  · exact h2
  · simp [sz]
  · simp [sz]
theorem kinds_ins {x : PV} (h : kindsT x = true) : kindsOk (ins (holes os ns) x) = true := by
  unfold kindsT at h
  split at h
  · simp only [ins, inss, holes, kindsOk, List.all_eq_true]
    intro o ho
    split
    · exact ((W.os _ ho).n).p _ _ rfl
    · rfl
  · simp only [ins, inss, holes, kindsOk]
  · cases h
  · simp only [ins, inss, kindsOk, inss_map, List.all_eq_true]
    intro o ho
    obtain ⟨t, ht, rfl⟩ := List.mem_map.mp ho
    have ht := List.all_eq_true.mp h t ht
    split at ht
    · rename_i k f
      rw [Bool.and_eq_true] at ht
      simp only [ins, inss]
      rw [ins_cl _ ht.1]
      exact ht.2
    · cases ht
    · rename_i n1 n2
      split
      · rename_i k f e
        exfalso
        cases t with
        | tup xs =>
          simp only [ins, PV.tup.injEq] at e
          match xs, e with
          | [], e => simp [inss] at e
          | [a], e => simp [inss] at e
          | [a, b], e => exact n1 _ _ rfl
          | a :: b :: c :: r, e => simp [inss] at e
        | ref k => exact n2 _ rfl
        | _ => simp [ins] at e
      · rfl
  · cases h
  · rename_i n1 n2 n3 n4 n5
    unfold kindsOk
    split
    · rename_i os' ns' e
      exfalso
      cases x with
      | tup xs =>
        simp only [ins, PV.tup.injEq] at e
        match xs, e with
        | [], e => simp [inss] at e
        | [a], e => simp [inss] at e
        | [a, b], e =>
          simp only [inss, List.cons.injEq] at e
          cases a with
          | tup ys => exact n4 _ _ rfl
          | ref k => exact n3 _ _ rfl
          | _ => simp [ins] at e
        | a :: b :: c :: r, e => simp [inss] at e
      | ref k => exact n5 _ rfl
      | _ => simp [ins] at e
    · rfl
theorem names_ins {x : PV} (hn : nv 8 (ins (holes os ns) x) = true) (h : namesT x = true) : namesOk (ins (holes os ns) x) = true := by
  unfold namesOk
  split
  · rename_i os' ns' e
    cases x with
    | tup xs =>
      simp only [ins, PV.tup.injEq] at e
      match xs, e with
      | [], e => simp [inss] at e
      | [a], e => simp [inss] at e
      | [a, b], e =>
        simp only [inss, List.cons.injEq, and_true] at e
        simp only [namesT, Bool.or_eq_true, Bool.and_eq_true] at h
        rcases h with h | ⟨h1, h2⟩
        · have hp := pl_ins (holes_pl W) h
          have hv : nv 7 (ins (holes os ns) b) = true := by
            simp only [ins, inss] at hn
            have hn : (nv 7 (ins (holes os ns) a) && (nv 7 (ins (holes os ns) b) && true)) = true := hn
            simp only [Bool.and_eq_true] at hn
            exact hn.2.1
          rw [← e.2, plainP_of (by decide) hv hp, Bool.or_true]
        · rw [← e.2, ins_cl _ h1, h2, Bool.true_or]
      | a :: b :: c :: r, e => simp [inss] at e
    | ref k => exact nomatch h
    | _ => simp [ins] at e
  · rfl
theorem tmpl_nice {x : PV} (h : tmplOk x = true) : Nice (ins (holes os ns) x) := by
  simp only [tmplOk, Bool.and_eq_true, decide_eq_true_eq] at h
  have v := nv_ins (holes_nv W) h.1
  have s := sz_ins (holes_sz W) x
  exact ⟨v, by have e : (2 : Nat) ^ 20 = 1048576 := by decide
               omega, kinds_ins W h.2.2.1, names_ins W v h.2.2.2⟩
end
theorem menu1_ok : menu1.all tmplOk = true := by decide +kernel
theorem menu2_ok : menu2.all tmplOk = true := by decide +kernel
theorem no_more_sp {os ns : List PV} (W : WebOk os ns) (a : Int) : f__law_no_more [.tup os, .tup ns] [.lst [.int a]] = .ok (.lst (inss (holes os ns) menu2)) [.lst [.int a]] := by
  obtain ⟨j, s, e1, e2, e3, e4⟩ := no_more_body os ns (.lst [.int a])
  have hv : ∀ x ∈ inss (holes os ns) menu2, nv 8 x = true := fun x hx => by
    rw [inss_map] at hx
    obtain ⟨t, ht, rfl⟩ := List.mem_map.mp hx
    exact (tmpl_nice W (List.all_eq_true.mp menu2_ok t ht)).nv
  unfold f__law_no_more defM
  simp only [List.map_cons, List.map_nil, List.length_cons, List.length_nil, List.replicate, List.cons_append, List.nil_append, Nat.reduceAdd, Nat.reduceSub]
  rw [e1]
  show gc [.lst [.int a]] (.ref j) s = _
  have hj : ¬ (low 1 (.ref j) = true) := by
    simp only [low, decide_eq_true_eq] at e4 ⊢
    omega
  have hs : 1 ≤ s.length := by
    cases s with
    | nil => simp at e2
    | cons b s => simp
  have hm : ∀ d (xs : List PV), (∀ x ∈ xs, nv 8 x = true) → mapO (gcV 1 s d) xs = some xs := by
    intro d xs
    induction xs with
    | nil => intro _; rfl
    | cons x xs ih =>
      intro h
      have hx : gcV 1 s d x = some x := by
        have := low_nv (k := 1) (h x (List.mem_cons_self ..))
        cases d <;> (unfold gcV; rw [if_pos this])
      simp only [mapO, hx, ih fun y m => h y (List.mem_cons_of_mem _ m)]
  have hg : gcV 1 s 4 (.ref j) = some (.lst (inss (holes os ns) menu2)) := by
    unfold gcV
    rw [if_neg hj]
    simp only [e2, hm 3 _ hv, Option.map_some]
  unfold gc
  show (match gcV 1 s 4 (.ref j) with
    | some y => if decide (1 ≤ s.length) && okOld 1 (s.take 1) [.lst [.int a]] then Res.ok y (s.take 1) else .bad
    | none => .bad) = _
  have ho : okOld 1 [MO.lst [.int a]] [.lst [.int a]] = true := okOld_of 1 (Nat.le_refl _) fun i b e => .inl e
  rw [hg, e3]
  simp only [decide_eq_true hs, ho, Bool.and_self, if_true]
theorem no_webs_sp {os ns : List PV} (W : WebOk os ns) (a : Int) : ∃ L, f__law_no_webs [.tup [.tup os, .tup ns]] [.lst [.int a]] = .ok (.lst L) [.lst [.int a]] ∧ (∀ x ∈ L, Nice x) ∧ fitL L = true := by
  have hall : ∀ x ∈ inss (holes os ns) menu1 ++ inss (holes os ns) menu2, Nice x := fun x hx => by
    rw [inss_map, inss_map] at hx
    rcases List.mem_append.mp hx with hx | hx
    · obtain ⟨t, ht, rfl⟩ := List.mem_map.mp hx
      exact tmpl_nice W (List.all_eq_true.mp menu1_ok t ht)
    · obtain ⟨t, ht, rfl⟩ := List.mem_map.mp hx
      exact tmpl_nice W (List.all_eq_true.mp menu2_ok t ht)
  have hl : (inss (holes os ns) menu1 ++ inss (holes os ns) menu2).length ≤ 1000 := by
    have h1 : menu1.length = 86 := by decide +kernel
    have h2 : menu2.length = 157 := by decide +kernel
    rw [List.length_append, inss_map, inss_map, List.length_map, List.length_map, h1, h2]
    decide
  refine ⟨_, ?_, hall, fit_le hl⟩
  have e := no_webs_body f__law_no_more os ns [.lst [.int a]]
  have q := no_more_sp W a
  have low1 : low 1 (.lst (inss (holes os ns) menu1 ++ inss (holes os ns) menu2)) = true := by
    have : nv 9 (.lst (inss (holes os ns) menu1 ++ inss (holes os ns) menu2)) = true := nvs_iff.mpr fun x hx => (hall x hx).nv
    exact low_nv this
  unfold f__law_no_webs defM
  simp only [List.map_cons, List.map_nil, List.length_cons, List.length_nil, List.replicate, List.cons_append, List.nil_append, Nat.reduceAdd, Nat.reduceSub]
  rw [show m__law_no_webs = w_no_webs f__law_no_more from rfl, e]
  simp_arith! [q, addL (fit_le hl)]
  exact gc_self (st := [.lst [.int a]]) low1
end K01

set_option Elab.async false
set_option linter.all false
set_option maxRecDepth 100000
set_option maxHeartbeats 1000000
namespace K01
open PySem PySem.Spec PyProof.Rows L2 Sim Pg
/-! ### cells -/
theorem small_of {i : Int} (h : i.natAbs < 2 ^ 1000) : smallB i = true := by
  unfold smallB
  rw [decide_eq_true_eq]
  by_cases h0 : i.natAbs = 0
  · rw [h0]; decide
  · have := (Nat.log2_lt h0).mpr h
    omega
theorem small_64 {i : Int} (h0 : -18446744073709551616 < i) (h1 : i < 18446744073709551616) : smallB i = true := small_of (by
  have : (18446744073709551616 : Nat) ≤ 2 ^ 1000 := by decide +kernel
  omega)
theorem mulI {a b : Int} (ha : smallB a = true) (hb : smallB b = true) (st : Sto) : sMul (.int a) (.int b) st = .ok (.int (a * b)) st := by
  simp only [sMul, ha, hb, Bool.and_self, if_true]
theorem mixed_sp (c k : Int) (h0 : 0 ≤ k) (h1 : k < 100000) (st : Sto) : ∃ m, f__law_mixed [.int c, .int k] st = .ok (.int m) st ∧ 0 ≤ m ∧ m < 2147483579 := by
  obtain ⟨c1, e1⟩ : ∃ x : Int, c % 2147483647 = x := ⟨_, rfl⟩
  have b1 : 0 ≤ c1 ∧ c1 < 2147483647 := by omega
  obtain ⟨m1, e2⟩ : ∃ x : Int, (c1 * 48271 + k * 69621 + 1048583) % 2147483629 = x := ⟨_, rfl⟩
  have b2 : 0 ≤ m1 ∧ m1 < 2147483629 := by omega
  obtain ⟨m2, e3⟩ : ∃ x : Int, (m1 * m1) % 2147483587 = x := ⟨_, rfl⟩
  have b3 : 0 ≤ m2 ∧ m2 < 2147483587 := ⟨by rw [← e3]; exact Int.emod_nonneg _ (by decide), by rw [← e3]; exact Int.emod_lt_of_pos _ (by decide)⟩
  obtain ⟨m3, e4⟩ : ∃ x : Int, (m2 * (m2 + 2)) % 2147483579 = x := ⟨_, rfl⟩
  have b4 : 0 ≤ m3 ∧ m3 < 2147483579 := ⟨by rw [← e4]; exact Int.emod_nonneg _ (by decide), by rw [← e4]; exact Int.emod_lt_of_pos _ (by decide)⟩
  refine ⟨m3, ?_, b4⟩
  unfold f__law_mixed m__law_mixed
  have q1 : ∀ s : Sto, sMul (.int c1) (.int 48271) s = .ok (.int (c1 * 48271)) s := mulI (small_64 (by omega) (by omega)) (small_64 (by omega) (by omega))
  have q2 : ∀ s : Sto, sMul (.int k) (.int 69621) s = .ok (.int (k * 69621)) s := mulI (small_64 (by omega) (by omega)) (small_64 (by omega) (by omega))
  have q3 : ∀ s : Sto, sMul (.int m1) (.int m1) s = .ok (.int (m1 * m1)) s := mulI (small_64 (by omega) (by omega)) (small_64 (by omega) (by omega))
  have q4 : ∀ s : Sto, sMul (.int m2) (.int (m2 + 2)) s = .ok (.int (m2 * (m2 + 2))) s := mulI (small_64 (by omega) (by omega)) (small_64 (by omega) (by omega))
  simp_arith! [int_ok, mod_ok c 2147483647 (by decide), e1, q1, q2, addI, mod_ok _ 2147483629 (by decide), e2, q3, mod_ok _ 2147483587 (by decide), e3, q4, mod_ok _ 2147483579 (by decide), e4]
def Bd : Nat → Int
  | 0 => 1
  | j + 1 => Bd j * 2147483648
theorem Bd_pos : ∀ j, 1 ≤ Bd j
  | 0 => by simp [Bd]
  | j + 1 => by have := Bd_pos j; simp only [Bd]; omega
theorem Bd_mono {i j : Nat} (h : i ≤ j) : Bd i ≤ Bd j := by
  induction h with
  | refl => exact Int.le_refl _
  | @step m h ih => have := Bd_pos m; simp only [Bd]; omega
theorem Bd_small {j : Nat} (hj : j ≤ 24) {f : Int} (h0 : 0 ≤ f) (h1 : f < Bd j) : smallB f = true := by
  have h2 := Bd_mono hj
  have h3 : Bd 24 < ((2 ^ 1000 : Nat) : Int) := by decide +kernel
  exact small_of (by omega)
def T18 : Int := 1000000000000000000
def T60 : Int := 1000000000000000000000000000000000000000000000000000000000000
def T240 : Int := T60 * T60 * T60 * T60
theorem p18 (st : Sto) : sPow (.int 10) (.int 18) st = .ok (.int T18) st := by kernel_rfl
theorem p60 (st : Sto) : sPow (.int 10) (.int 60) st = .ok (.int T60) st := by kernel_rfl
theorem s60 : smallB T60 = true := by decide +kernel
theorem s120 : smallB (T60 * T60) = true := by decide +kernel
theorem s180 : smallB (T60 * T60 * T60) = true := by decide +kernel
theorem t240 : 0 < T60 * T60 * T60 * T60 := by decide +kernel
theorem rangeP_cons (lo : Int) (n : Nat) : rangeP lo (n + 1) = .int lo :: rangeP (lo + 1) n := by
  unfold rangeP
  rw [List.range_succ_eq_map, List.map_cons, List.map_map]
  congr 1
  · simp
  · apply List.map_congr_left
    intro i _
    show PV.int (lo + ((i + 1 : Nat) : Int)) = PV.int (lo + 1 + (i : Int))
    congr 1
    omega
theorem range24 (s : Sto) (env : Lo) : mRange1 (mC (.int 24)) env s = .ok (rangeP 0 24) s := rfl
theorem cell_sp (ns : List Int) (k : Int) (h0 : 0 ≤ k) (h1 : k < 100) (st : Sto) : ∃ c, f__law_cell [scriptP ns, .int k] st = .ok (.int c) st := by
  unfold f__law_cell m__law_cell
  have hcell : ∃ c : Int, (cIf (bVal (mBin sLt (mVar 1) (mApp sLen (mCons (mVar 0) mNil)))) (cSet (.one 2) (mBin sIx (mVar 0) (mVar 1))) cNil) [some (scriptP ns), some (.int k), some (.int 0), none, none] st = .nx [some (scriptP ns), some (.int k), some (.int c), none, none] st := by
    have hl : sLen [scriptP ns] st = .ok (.int ns.length) st := by
      simp only [scriptP, sLen, asS, asL, List.length_map]
    rcases Bool.eq_false_or_eq_true (decide (k < (ns.length : Int))) with hb | hb
    · obtain ⟨i, hi⟩ := Int.eq_ofNat_of_zero_le h0
      have hil : i < ns.length := by
        rw [decide_eq_true_eq] at hb
        omega
      refine ⟨ns[i], (cIf_t (s := st) (by simp_arith! [hl, hb])).trans ?_⟩
      have e : sIx (scriptP ns) (.int k) st = .ok (.int ns[i]) st := by
        have := atI_nat (xs := ns.map PV.int) (i := i) (by simpa using hil)
        rw [← hi] at this
        simp only [scriptP, sIx, asD, asL, this, List.getElem_map]
      simp_arith! [e]
    · exact ⟨0, (cIf_f (s := st) (by simp_arith! [hl, hb])).trans rfl⟩
  obtain ⟨c, hc⟩ := hcell
  rcases Bool.eq_false_or_eq_true (decide (T18 ≤ c)) with hb | hb
  · refine ⟨(c - T18) % (T60 * T60 * T60 * T60), ?_⟩
    simp_arith! [↓hc, p18, hb, sub_ok, int_ok, p60, mulI s60 s60, mulI s120 s60, mulI s180 s60, mod_ok _ _ t240]
  · have loop := for_inv (t := .one 4) (body := (cSet (.one 3) (mBin sAdd (mBin sMul (mVar 3) (mC (.int 2147483579))) (mApp (fnN 2 f__law_mixed) (mCons (mVar 2) (mCons (mBin sAdd (mBin sAdd (mBin sMul (mC (.int 7)) (mVar 1)) (mBin sMul (mC (.int 100)) (mVar 4))) (mBin sMul (mVar 4) (mVar 4))) mNil))))))
      (fun rem e s => ∃ f j v, e = [some (scriptP ns), some (.int k), some (.int c), some (.int f), v] ∧ s = st ∧ 0 ≤ f ∧ f < Bd j ∧ j ≤ 24 ∧ rem = rangeP (j : Int) (24 - j))
      (by
        rintro x xs e s ⟨f, j, v, rfl, rfl, f0, f1, hj, hr⟩
        obtain ⟨m, hm⟩ : ∃ m, 24 - j = m + 1 := by
          cases h : 24 - j with
          | zero => rw [h] at hr; simp [rangeP] at hr
          | succ m => exact ⟨m, rfl⟩
        rw [hm, rangeP_cons, List.cons.injEq] at hr
        obtain ⟨rfl, rfl⟩ := hr
        obtain ⟨z, hz⟩ : ∃ z : Int, (j : Int) = z := ⟨_, rfl⟩
        have z0 : 0 ≤ z ∧ z < 24 := by omega
        rw [hz]
        refine ⟨_, rfl, ?_⟩
        obtain ⟨y, hy⟩ : ∃ y : Int, 7 * k + 100 * z + z * z = y := ⟨_, rfl⟩
        have hzz : 0 ≤ z * z ∧ z * z ≤ 529 := by
          have : z = 0 ∨ z = 1 ∨ z = 2 ∨ z = 3 ∨ z = 4 ∨ z = 5 ∨ z = 6 ∨ z = 7 ∨ z = 8 ∨ z = 9 ∨ z = 10 ∨ z = 11 ∨ z = 12 ∨ z = 13 ∨ z = 14 ∨ z = 15 ∨ z = 16 ∨ z = 17 ∨ z = 18 ∨ z = 19 ∨ z = 20 ∨ z = 21 ∨ z = 22 ∨ z = 23 := by omega
          rcases this with rfl | rfl | rfl | rfl | rfl | rfl | rfl | rfl | rfl | rfl | rfl | rfl | rfl | rfl | rfl | rfl | rfl | rfl | rfl | rfl | rfl | rfl | rfl | rfl <;> decide
        obtain ⟨mx, q1, q2, q3⟩ := mixed_sp c y (by omega) (by omega) s
        have r1 : ∀ s : Sto, sMul (.int f) (.int 2147483579) s = .ok (.int (f * 2147483579)) s := mulI (Bd_small hj f0 f1) (small_64 (by omega) (by omega))
        have r2 : ∀ s : Sto, sMul (.int 7) (.int k) s = .ok (.int (7 * k)) s := mulI (small_64 (by omega) (by omega)) (small_64 (by omega) (by omega))
        have r3 : ∀ s : Sto, sMul (.int 100) (.int z) s = .ok (.int (100 * z)) s := mulI (small_64 (by omega) (by omega)) (small_64 (by omega) (by omega))
        have r4 : ∀ s : Sto, sMul (.int z) (.int z) s = .ok (.int (z * z)) s := mulI (small_64 (by omega) (by omega)) (small_64 (by omega) (by omega))
        refine ⟨[some (scriptP ns), some (.int k), some (.int c), some (.int (f * 2147483579 + mx)), some (.int z)], s, ?_, _, j + 1, _, rfl, rfl, by omega, ?_, by omega, ?_⟩
        · simp_arith! [r1, r2, r3, r4, addI, hy, q1]
        · simp only [Bd]; omega
        · rw [← hz, show 24 - (j + 1) = m by omega]; rfl)
      (xs := rangeP 0 24) (e := [some (scriptP ns), some (.int k), some (.int c), some (.int 0), none]) (s := st)
      ⟨0, 0, none, rfl, rfl, by decide, by decide, by decide, rfl⟩
    obtain ⟨e, s, l1, f, j, v, rfl, rfl, _⟩ := loop
    exact ⟨f, by simp_arith! [↓hc, p18, hb, range24, l1]⟩
end K01

set_option Elab.async false
set_option linter.all false
set_option maxRecDepth 100000
set_option maxHeartbeats 1000000
namespace K01
open PySem PySem.Spec PyProof.Rows L2 Sim Pg
/-! ### look and place -/
def numV : Option Vl → PV
  | some (.ref n) => .int (n : Nat)
  | _ => .non
def ansV (w : Web) : Option Vl → PV
  | none => .str "none"
  | some (.int i) => .int i
  | some (.ref n) => match w.os[n]? with
    | some o => .tup [.str o.kind, .tup (o.fs.map fun p => .str p.1)]
    | none => .non
theorem numV_low (n : Nat) (v : Option Vl) : low n (numV v) = true := by
  cases v with
  | none => rfl
  | some v => cases v <;> rfl
theorem lows_words {α : Type} (n : Nat) (l : List (Str × α)) : lows n (l.map fun p => .str p.1) = true := by
  induction l with
  | nil => rfl
  | cons a l ih => simp only [List.map_cons, lows, low, ih, Bool.and_self]
theorem ansV_low (n : Nat) (w : Web) (v : Option Vl) : low n (ansV w v) = true := by
  cases v with
  | none => rfl
  | some v => cases v with
    | int i => rfl
    | ref m =>
      simp only [ansV]
      split
      · simp only [low, lows, lows_words, Bool.and_self]
      · rfl
theorem object_at_ok {w : Web} (h : w.Ok) {p : List Str} (hp : p ≠ []) (st : Sto) : f_object_at [w.pv, ppath p] st = .ok (numV (follow w p)) st := by
  refine w_eq ?_
  unfold f_object_at
  refine w_defM ?_
  unfold m_object_at
  have fin : gc st (numV (follow w p)) st = .ok (numV (follow w p)) st := gc_same (numV_low _ _)
  simp_all_arith! [follow_fn h hp, mIf, isi_optV]
  cases hv : follow w p with
  | none => simp_all_arith! [isRef, gc_non, numV]; exact ⟨trivial, trivial⟩
  | some v => cases v with
    | int i => simp_all_arith! [isRef, gc_non, numV]; exact ⟨trivial, trivial⟩
    | ref n =>
      rw [hv] at fin
      have e : optV (some (.ref n)) = .tup [.int (n : Nat)] := rfl
      have e2 : numV (some (.ref n)) = .int (n : Nat) := rfl
      rw [e2] at fin ⊢
      simp_all_arith! [isRef, e, ix0s, fin]
      exact ⟨trivial, trivial⟩
theorem words_one (i : Nat) (env0 : Lo) (l : List (Str × Vl)) (st : Sto) (hi : i < env0.length) : lcGo (.one i) bYes (mBin sIx (mVar i) (mC (.int 0))) env0 (l.map fpv) st = .ok (l.map fun p => .str p.1) st := by
  have := lcGo_maps (t := .one i) (m := mBin sIx (mVar i) (mC (.int 0))) (env0 := env0) (st := st) (fun x => fst x) (xs := l.map fpv) (by
    intro x hx
    obtain ⟨p, _, rfl⟩ := List.mem_map.mp hx
    refine ⟨_, rfl, ?_⟩
    have e : (env0.set i (some (fpv p)))[i]? = some (some (fpv p)) := List.getElem?_set_self hi
    have e2 : mVar i (env0.set i (some (fpv p))) st = .ok (fpv p) st := by unfold mVar; rw [e]
    unfold mBin
    rw [e2]
    show sIx (.tup [.str p.1, p.2.pv]) (.int 0) st = _
    exact ix0s _ _ _)
  rw [this, List.map_map]
  rfl
theorem answer_at_ok {w : Web} (h : w.Ok) {p : List Str} (hp : p ≠ []) (st : Sto) : f_answer_at [w.pv, ppath p] st = .ok (ansV w (follow w p)) st := by
  refine w_eq ?_
  unfold f_answer_at
  refine w_defM ?_
  unfold m_answer_at
  have fin : gc st (ansV w (follow w p)) st = .ok (ansV w (follow w p)) st := gc_same (ansV_low _ _ _)
  have hok := follow_ok h p
  simp_all_arith! [follow_fn h hp, isn_optV]
  cases hv : follow w p with
  | none =>
    rw [hv] at fin
    have e : ansV w none = .str "none" := rfl
    rw [e] at fin ⊢
    simp_all_arith! [Option.isNone_none, fin]
    exact ⟨trivial, trivial⟩
  | some v => cases v with
    | int i =>
      rw [hv] at fin
      have e : ansV w (some (.int i)) = .int i := rfl
      have e1 : optV (some (.int i)) = .int i := rfl
      rw [e] at fin ⊢
      have e3 : ∀ s : Sto, sIsi [.int i, .raw (.ty "tuple")] s = .ok (.bl false) s := fun _ => rfl
      simp_all_arith! [Option.isNone_some, e1, e3, fin]
      exact ⟨trivial, trivial⟩
    | ref n =>
      have hlt := hok n hv
      have ho : w.os[n]? = some w.os[n] := List.getElem?_eq_getElem hlt
      have hob := h.ob _ (List.getElem_mem hlt)
      have f4 := hob.f4
      rw [hv] at fin
      have e : ansV w (some (.ref n)) = .tup [.str w.os[n].kind, .tup (w.os[n].fs.map fun p => .str p.1)] := by simp only [ansV, ho]
      have e1 : optV (some (.ref n)) = .tup [.int (n : Nat)] := rfl
      rw [e] at fin ⊢
      simp_all_arith! [Option.isNone_some, isi_optV, isRef]
      rw [wO_setMany]
      simp_all_arith! [e1, Web.pv, ix0s, obs_at ho]
      refine ⟨_, rfl, ?_⟩
      simp only [setMany]
      simp_all_arith! [words_of_l (α := Str × Vl) fpv (fun p => p.1) (fun p => p.2.pv) (fun _ => rfl) w.os[n].fs (by omega) st, sTuple, asL, sTup2, fin]
      exact ⟨trivial, trivial⟩
theorem look_ok {w : Web} (h : w.Ok) {p : List Str} (hp : Path p) (st : Sto) : f_look [w.pv, ppath p] st = .ok (ansV w (follow w p)) st := by
  unfold f_look m_look
  have fin : gc st (ansV w (follow w p)) st = .ok (ansV w (follow w p)) st := gc_same (ansV_low _ _ _)
  simp_arith! [check_web_ok h, check_path_ok hp, answer_at_ok h hp.ne, fin]
theorem place_ok {w : Web} (h : w.Ok) {p : List Str} (hp : Path p) (st : Sto) : f_place [w.pv, ppath p] st = .ok (numV (follow w p)) st := by
  unfold f_place m_place
  have fin : gc st (numV (follow w p)) st = .ok (numV (follow w p)) st := gc_same (numV_low _ _)
  simp_arith! [check_web_ok h, check_path_ok hp, object_at_ok h hp.ne, fin]
/-! what is asked of them -/
theorem ansV_data {w : Web} (h : w.Ok) {v : Option Vl} (hv : VOk w v) (hi : ∀ i, v = some (.int i) → -999999999 ≤ i ∧ i ≤ 999999999) : nv 2 (ansV w v) = true ∧ pl (ansV w v) = true := by
  cases v with
  | none => exact ⟨(by decide +kernel : nv 2 (.str "none") = true), rfl⟩
  | some v => cases v with
    | int i => exact ⟨int_nv (hi i rfl).1 (hi i rfl).2, rfl⟩
    | ref n =>
      have hlt := hv n rfl
      have ho : w.os[n]? = some w.os[n] := List.getElem?_eq_getElem hlt
      have hob := h.ob _ (List.getElem_mem hlt)
      simp only [ansV, ho]
      have k1 : nv 1 (.str w.os[n].kind) = true := by
        rcases hob.kd with e | e <;> (rw [e]; decide +kernel)
      have k2 : nvs 0 (w.os[n].fs.map fun p => PV.str p.1) = true := nvs_iff.mpr fun x hx => by
        obtain ⟨p, hp, rfl⟩ := List.mem_map.mp hx
        exact (hob.wd p hp).nv 0
      have k3 : pls (w.os[n].fs.map fun p => PV.str p.1) = true := pls_iff.mpr fun x hx => by
        obtain ⟨p, hp, rfl⟩ := List.mem_map.mp hx
        rfl
      refine ⟨?_, ?_⟩
      · show (nv 1 (.str w.os[n].kind) && (nvs 0 (w.os[n].fs.map fun p => PV.str p.1) && true)) = true
        rw [k1, k2]; rfl
      · show (true && (pls (w.os[n].fs.map fun p => PV.str p.1) && true)) = true
        rw [k3]; rfl
def VIn (v : Option Vl) : Prop := ∀ i, v = some (.int i) → -999999999 ≤ i ∧ i ≤ 999999999
theorem VIn.step {w : Web} (h : w.Ok) (v : Option Vl) (k : Str) : VIn (stepV w v k) := fun i e => by
  unfold stepV at e
  split at e
  · rename_i m
    obtain ⟨o, eo, e2⟩ := Option.bind_eq_some_iff.mp e
    exact (h.ob o (List.mem_of_getElem? eo)).vl _ (asc_mem e2)
  · cases e
theorem VIn.fold {w : Web} (h : w.Ok) : ∀ (r : List Str) {v : Option Vl}, VIn v → VIn (r.foldl (stepV w) v)
  | [], _, hv => hv
  | k :: r, v, _ => VIn.fold h r (VIn.step h v k)
theorem follow_in {w : Web} (h : w.Ok) (p : List Str) : VIn (follow w p) := by
  cases p with
  | nil => exact nofun
  | cons k r =>
    refine VIn.fold h r fun i e => ?_
    obtain ⟨m, _, e2⟩ := Option.map_eq_some_iff.mp e
    cases e2
theorem numV_data {w : Web} (h : w.Ok) {v : Option Vl} (hv : VOk w v) : nv 2 (numV v) = true ∧ pl (numV v) = true := by
  cases v with
  | none => exact ⟨rfl, rfl⟩
  | some v => cases v with
    | int i => exact ⟨rfl, rfl⟩
    | ref n =>
      have hlt := hv n rfl
      have := h.o30
      exact ⟨int_nv (by omega) (by omega), rfl⟩
end K01

set_option Elab.async false
set_option linter.all false
set_option maxRecDepth 100000
set_option maxHeartbeats 1000000
namespace K01
open PySem PySem.Spec PyProof.Rows L2 Sim Pg
theorem Web.Ok.sz {w : Web} (h : w.Ok) : Sim.sz w.pv ≤ 2 ^ 16 := by
  have d := h.data
  have h30 := h.o30
  have h6 := h.n6
  have s1 := szs_le (m := 200) fun x hx => (d.os x hx).hsz
  have s2 := szs_le (m := 100) fun x hx => ((d.ns x hx).n (by rw [List.length_map]; omega)).s
  simp only [List.length_map] at s1 s2
  have e : (2 : Nat) ^ 16 = 65536 := by decide
  simp only [Web.pv, Sim.sz, szs]
  omega
theorem shows2 {w : Web} (h : w.Ok) {p : List Str} (hp : Path p) : Shows (.lst [w.pv, ppath p]) := by
  have e : (2 : Nat) ^ 16 = 65536 := by decide
  have e2 : (2 : Nat) ^ 20 = 1048576 := by decide
  have s1 := h.sz
  have s2 := hp.sz
  refine shows_of (n := 8) (by decide) ?_ (by simp only [Sim.sz, szs]; omega)
  show (Sim.nv 7 w.pv && (Sim.nv 7 (ppath p) && true)) = true
  rw [nv_mono (by decide) h.nvpl.1, hp.nv 6]; rfl
theorem isiB_num (v : Option Vl) (st : Sto) : sIsi [numV v, .raw (.ty "bool")] st = .ok (.bl false) st := by
  cases v with
  | none => rfl
  | some v => cases v <;> rfl
theorem isiB_ans {w : Web} (h : w.Ok) {v : Option Vl} (hv : VOk w v) (st : Sto) : sIsi [ansV w v, .raw (.ty "bool")] st = .ok (.bl false) st := by
  cases v with
  | none => rfl
  | some v => cases v with
    | int i => rfl
    | ref n =>
      have ho : w.os[n]? = some (w.os[n]'(hv n rfl)) := List.getElem?_eq_getElem (hv n rfl)
      simp only [ansV, ho]
      rfl
theorem eqs_same (z : Str) (neg : Bool) (st : Sto) : sEqn neg (.str z) (.str z) st = .ok (.bl (!neg)) st := by
  unfold sEqn
  simp only [flatEq, decide_true]
  cases neg <;> rfl
theorem perm2 (x y : PV) : permL [1, 0] [x, y] = [y, x] := rfl
theorem lst2 (x y : PV) (st : Sto) : sLstF [x, y] st = .ok (.lst [x, y]) st := rfl
theorem words_two (env0 : Lo) (l : List (Str × Vl)) (st : Sto) (hi : env0.length = 10) : lcGo (.many [8, 9]) bYes (mVar 8) env0 (l.map fpv) st = .ok (l.map fun p => .str p.1) st := words_of_fields Vl.pv 8 9 10 env0 l st hi (by decide) (by decide)
theorem law_good_3_ok {w : Web} (h : w.Ok) {p : List Str} (hp : Path p) (st : Sto) : f__law_good_3 [w.pv, ppath p] st = .ok (.bl true) st := by
  refine w_eq ?_
  unfold f__law_good_3
  refine w_defM ?_
  unfold m__law_good_3
  obtain ⟨z, hz⟩ := shows2 h hp
  have hok := follow_ok h p
  obtain ⟨a1, a2⟩ := ansV_data h hok (follow_in h p)
  obtain ⟨b1, b2⟩ := numV_data h hok
  have ea := fun neg st => eq_same (by decide) a1 a2 neg st
  have eb := fun neg st => eq_same (by decide) b1 b2 neg st
  have fin : gc st (.bl true) st = .ok (.bl true) st := gc_same rfl
  simp_all_arith! [lst2, hz, law_value_ok' h hp.ne]
  rw [wO_par]
  simp_all_arith! [look_ok h hp, place_ok h hp]
  refine ⟨_, _, rfl, ?_⟩
  simp_all_arith! [fnK, perm2, look_ok h hp, place_ok h hp, ea, eb, lst2, hz, eqs_same, isiB_num, isiB_ans h hok, isn_optV]
  cases hv : follow w p with
  | none =>
    have e1 : ansV w none = .str "none" := rfl
    have e2 : numV none = .non := rfl
    have e3 : ∀ s : Sto, sIsn false .non .non s = .ok (.bl true) s := fun _ => rfl
    simp_all_arith! [Option.isNone_none, e1, e2, e3, eqs_same, fin]
    exact ⟨trivial, trivial⟩
  | some v => cases v with
    | int i =>
      have e1 : ansV w (some (.int i)) = .int i := rfl
      have e2 : numV (some (.int i)) = .non := rfl
      have e3 : ∀ s : Sto, sIsn false .non .non s = .ok (.bl true) s := fun _ => rfl
      have e4 : optV (some (.int i)) = .int i := rfl
      have e5 : ∀ s : Sto, sIsi [.int i, .raw (.ty "tuple")] s = .ok (.bl false) s := fun _ => rfl
      have e6 : decide (i = i) = true := decide_eq_true rfl
      simp_all_arith! [Option.isNone_some, e1, e2, e3, e4, e5, eqI, e6, fin]
      exact ⟨trivial, trivial⟩
    | ref n =>
      have hlt := hok n hv
      have ho : w.os[n]? = some w.os[n] := List.getElem?_eq_getElem hlt
      have hob := h.ob _ (List.getElem_mem hlt)
      have f4 := hob.f4
      rw [hv] at ea eb
      have e1 : ansV w (some (.ref n)) = .tup [.str w.os[n].kind, .tup (w.os[n].fs.map fun p => .str p.1)] := by simp only [ansV, ho]
      have e2 : numV (some (.ref n)) = .int (n : Nat) := rfl
      have e4 : optV (some (.ref n)) = .tup [.int (n : Nat)] := rfl
      have e5 : ∀ s : Sto, sIsi [.tup [.int (n : Nat)], .raw (.ty "tuple")] s = .ok (.bl true) s := fun _ => rfl
      simp_all_arith! [Option.isNone_some, e4, e5]
      rw [wO_setMany]
      simp_all_arith! [Web.pv, ix0s, obs_at ho]
      refine ⟨_, rfl, ?_⟩
      simp only [setMany]
      simp_all_arith! [mLc, fit_small (xs := w.os[n].fs.map fpv) (by rw [List.length_map]; omega), wipeL]
      rw [words_two _ w.os[n].fs st rfl]
      rw [e1] at ea
      rw [e2] at eb
      simp_all_arith! [sTuple, asL, sTup2, e1, e2, ea, eb, fin, ix0s]
      exact ⟨trivial, trivial⟩
/-! ### the law -/
theorem neg1_ok (st : Sto) : sNeg (.int 1) st = .ok (.int (-1)) st := rfl
theorem range_mem {lo : Int} {m : Nat} {x : PV} {xs : List PV} {i : Nat} (h : rangeP lo m = xs) (hx : xs[i]? = some x) : x = .int (lo + i) ∧ i < m := by
  subst h
  simp only [rangeP, List.getElem?_map, Option.map_eq_some_iff] at hx
  obtain ⟨j, hj, rfl⟩ := hx
  obtain ⟨h1, rfl⟩ := List.getElem?_eq_some_iff.mp hj
  simp only [List.length_range] at h1
  simp only [List.getElem_range]
  exact ⟨trivial, h1⟩
theorem forget {t : Tgt} {body : MS} {N : Lo → Sto → Prop} {R : PV → Sto → Prop} {B C : Lo → Sto → Prop} (P : PV → Prop) (I : Lo → Sto → Prop) (step : ∀ x e s, P x → I e s → ∃ e1, t.run x e = some e1 ∧ wO (body e1 s) I R N I) {xs : List PV} (hx : ∀ x ∈ xs, P x) {e : Lo} {s : Sto} (h : I e s) (fin : ∀ e s, I e s → N e s) : wO (forGo t body xs e s) N R B C := by
  refine w_forGo (I := fun rem e s => (∀ x ∈ rem, P x) ∧ I e s) ?_ (fun e s h => fin e s h.2) ⟨hx, h⟩
  rintro x xs e s ⟨hp, hi⟩
  obtain ⟨e1, r, w⟩ := step x e s (hp x (List.mem_cons_self ..)) hi
  refine ⟨e1, r, ?_⟩
  have hn : ∀ y ∈ xs, P y := fun y hy => hp y (List.mem_cons_of_mem _ hy)
  revert w
  cases body e1 s with
  | nx e s => exact fun w => ⟨hn, w⟩
  | ct e s => exact fun w => ⟨hn, w⟩
  | bk e s => exact fun w => w
  | rt v s => exact fun w => w
  | exc n fs s => exact fun w => w
  | bad => exact fun w => w
def Small (m : Int) (x : PV) : Prop := ∃ z : Int, x = .int z ∧ 0 ≤ z ∧ z < m
theorem range_small (m : Nat) : ∀ x ∈ rangeP 0 m, Small m x := fun x hx => by
  simp only [rangeP, List.mem_map, List.mem_range] at hx
  obtain ⟨i, hi, rfl⟩ := hx
  exact ⟨_, rfl, by omega, by omega⟩
theorem path_app {p : List Str} {n : Int} (h1 : p ≠ []) (h2 : (p.length : Int) ≤ n) (hn : n ≤ 20) (h3 : ∀ z ∈ p, Wd z) : Path p ∧ Path (p ++ (["n"] : List Str)) ∧ Path (p.drop (p.length - 1)) := by
  have wn : Wd "n" := by unfold Wd; decide +kernel
  refine ⟨⟨h1, by omega, h3⟩, ⟨by simp, by rw [List.length_append]; simp; omega, fun z hz => ?_⟩, ⟨?_, by rw [List.length_drop]; omega, fun z hz => h3 z (List.mem_of_mem_drop hz)⟩⟩
  · rcases List.mem_append.mp hz with hz | hz
    · exact h3 z hz
    · rw [List.mem_singleton.mp hz]; exact wn
  · intro e
    have := congrArg List.length e
    rw [List.length_drop, List.length_nil] at this
    have : 0 < p.length := List.length_pos_iff.mpr h1
    omega
theorem sl_last (p : List Str) (st : Sto) (h : p ≠ []) : sSlice (ppath p) (some (-1)) none st = .ok (ppath (p.drop (p.length - 1))) st := by
  have hl : 0 < p.length := List.length_pos_iff.mpr h
  have e : HT.sIx p.length 0 (some (-1)) = p.length - 1 := by
    show (if (-1 : Int) < 0 then ((-1 : Int) + (p.length : Nat)).toNat else min (-1 : Int).toNat p.length) = _
    rw [if_pos (by decide)]
    omega
  simp only [sSlice, ppath, cutP, List.length_map, e, HT.sIx_none]
  rw [← List.map_drop, List.take_of_length_le (by simp)]
theorem addT2 (p q : List Str) (st : Sto) (h : p.length + q.length ≤ 1000) : sAdd (ppath p) (.tup (q.map .str)) st = .ok (ppath (p ++ q)) st := by
  unfold ppath
  rw [List.map_append]
  exact addT (fit_small (by simp; omega)) st
theorem max_ok (n : Nat) (st : Sto) : ∃ m : Nat, 1 ≤ m ∧ m ≤ 5 ∧ ∀ st, sMax2 [.int (if (5 : Int) < (n : Int) then 5 else (n : Int)), .int 1] st = .ok (.int (m : Nat)) st := by
  by_cases h : (5 : Int) < n
  · exact ⟨5, by decide, by decide, fun st => by rw [if_pos h]; rfl⟩
  · rw [if_neg h]
    by_cases h1 : n = 0
    · exact ⟨1, by decide, by decide, fun st => by subst h1; rfl⟩
    · exact ⟨n, by omega, by omega, fun st => by simp only [sMax2]; rw [if_neg (by omega)]⟩
/-- the turns of a law of at most five cells -/
theorem turns (ns : List Int) (env : Lo) (st : Sto) (h0 : env[0]? = some (some (scriptP ns))) : ∃ m : Nat, m ≤ 5 ∧ mRange1 (mApp sMax2 (mCons (mApp sMin2 (mCons (mApp sLen (mCons (mVar 0) mNil)) (mCons (mC (.int 5)) mNil))) (mCons (mC (.int 1)) mNil))) env st = .ok (rangeP 0 m) st := by
  obtain ⟨m, h1, h2, e⟩ := max_ok ns.length st
  refine ⟨m, h2, ?_⟩
  have e2 : sLen [scriptP ns] st = .ok (.int (ns.length : Nat)) st := by
    show Res.ok (PV.int ((ns.map PV.int).length : Nat)) st = _
    rw [List.length_map]
  have e3 : sMin2 [.int (ns.length : Nat), .int 5] st = .ok (.int (if (5 : Int) < (ns.length : Int) then 5 else (ns.length : Int))) st := rfl
  simp_arith! [mRange1, h0, e2, e3, e]
  rw [if_pos (range_ok _ (by omega) (by omega)), Int.toNat_natCast]
theorem own_new (c : Int) (s : Sto) : Dr s.length (s ++ [.lst [.int c]]) := ⟨c, by simp⟩
theorem lstM1 (x : PV) (st : Sto) : sLstM [x] st = .ok (.ref st.length) (st ++ [.lst [x]]) := rfl
theorem ix2 (a b : Int) {z : Int} (h0 : 0 ≤ z) (h1 : z < 2) : ∃ v : Int, (v = a ∨ v = b) ∧ ∀ st, sIx (.lst [.int a, .int b]) (.int z) st = .ok (.int v) st := by
  have : z = 0 ∨ z = 1 := by omega
  rcases this with rfl | rfl
  · exact ⟨a, .inl rfl, fun _ => rfl⟩
  · exact ⟨b, .inr rfl, fun _ => rfl⟩
end K01

set_option Elab.async false
set_option linter.all false
set_option maxRecDepth 100000
set_option maxHeartbeats 1000000
namespace K03
open PySem PySem.Spec PyProof.Rows L2 Sim Pg K01
def ringW : Web := ⟨[⟨"open", [("n", .ref 1), ("x", .int 5)]⟩, ⟨"frozen", [("n", .ref 0)]⟩], [("a", 0), ("b", 1)]⟩
theorem ring_ok : ringW.Ok := ok_of (by decide +kernel)
theorem turn_w (ns : List Int) (z : Int) (h0 : 0 ≤ z) (h1 : z < 5) (v3 v4 v5 v6 v7 v8 : Option PV) (s : Sto) {R : PV → Sto → Prop} {B C : Lo → Sto → Prop} :
  wO ((cSeq (cSet (.one 5) (mApp sLstM (mCons (mApp (fnN 2 f__law_cell) (mCons (mVar 0) (mCons (mVar 1) mNil))) mNil)))
  (cFor (mRange1 (mC (.int 2))) (.one 6)
  (cSeq (cSet (.one 7) (mApp (fnN 2 f__law_web) (mCons (mVar 5) (mCons (mBin sIx (mApp sLstF (mCons (mC (.int 4)) (mCons (mC (.int 12)) mNil))) (mVar 6)) mNil))))
  (cFor (mRange1 (mC (.int 12))) (.one 8)
  (cSeq (cSet (.one 4) (mApp (fnN 3 f__law_path) (mCons (mVar 5) (mCons (mVar 7) (mCons (mBin sIx (mApp sLstF (mCons (mC (.int 3)) (mCons (mC (.int 12)) mNil))) (mBin sMod (mApp sInt (mCons (mVar 8) mNil)) (mC (.int 2)))) mNil)))))
  (cFor (mIter (mApp sLstF (mCons (mVar 4) (mCons (mBin sAdd (mVar 4) (mApp sTup (mCons (mC (.str "n")) mNil))) (mCons (mSlice (mVar 4) (oSome (mUn sNeg (mC (.int 1)))) oNone) mNil))))) (.one 3)
  (cIf (bNot (bVal (mApp (fnN 2 f__law_good_3) (mCons (mVar 7) (mCons (mVar 3) mNil)))))
  (cRet (mC (.bl false)))
  cNil)))))))
   [some (scriptP ns), some (.int z), none, v3, v4, v5, v6, v7, v8] s)
   (fun e _ => ∃ v3 v4 v5 v6 v7 v8, e = [some (scriptP ns), some (.int z), none, v3, v4, v5, v6, v7, v8]) R B C := by
  obtain ⟨c, hc⟩ := cell_sp ns z h0 (by omega) s
  have r2 : ∀ s env, mRange1 (mC (.int 2)) env s = .ok (rangeP 0 2) s := fun _ _ => rfl
  simp_all_arith! [hc, lstM1, r2]
  have dr0 := own_new c s
  obtain ⟨L, hL⟩ : ∃ L, s.length = L := ⟨_, rfl⟩
  rw [hL] at dr0 ⊢
  refine forget (P := Small 2) (I := fun e s => ∃ v3 v4 v6 v7 v8, e = [some (scriptP ns), some (.int z), none, v3, v4, some (.ref L), v6, v7, v8] ∧ Dr L s) ?_ (range_small 2) ⟨v3, v4, v6, v7, v8, rfl, dr0⟩ (fun e s ⟨v3, v4, v6, v7, v8, h, _⟩ => ⟨v3, v4, _, v6, v7, v8, h⟩)
  rintro x e s ⟨y, rfl, y0, y1⟩ ⟨v3, v4, v6, v7, v8, rfl, dr⟩
  refine ⟨_, rfl, ?_⟩
  obtain ⟨m, hm, em⟩ := ix2 4 12 y0 y1
  simp_all_arith! [lst2, em]
  refine (web_w dr (by omega) (by omega)).imp ?_
  rintro v s1 ⟨w, rfl, hw, u⟩
  have dr1 := u.dr dr.lt
  have r12 : ∀ s env, mRange1 (mC (.int 12)) env s = .ok (rangeP 0 12) s := fun _ _ => rfl
  simp_all_arith! [r12]
  refine forget (P := Small 12) (I := fun e s => ∃ v3 v4 v8, e = [some (scriptP ns), some (.int z), none, v3, v4, some (.ref L), some (.int y), some w.pv, v8] ∧ Dr L s) ?_ (range_small 12) ⟨v3, v4, v8, rfl, dr1⟩ (fun e s ⟨v3, v4, v8, h, d⟩ => ⟨v3, v4, _, _, v8, h, d⟩)
  rintro x e s2 ⟨j, rfl, j0, j1⟩ ⟨v3, v4, v8, rfl, dr2⟩
  refine ⟨_, rfl, ?_⟩
  obtain ⟨q, hq, eq⟩ := ix2 3 12 (z := j % 2) (by omega) (by omega)
  simp_all_arith! [lst2, int_ok, mod_ok j 2 (by decide), eq]
  refine (law_path_w hw dr2 (by omega) (by omega)).imp ?_
  rintro v s3 ⟨p, rfl, hp, hl, hwd, u3⟩
  obtain ⟨p1, p2, p3⟩ := path_app hp hl (by omega) hwd
  have dr3 := u3.dr dr2.lt
  have ea := fun s => addT2 p (["n"] : List Str) s (by simp; omega)
  simp only [List.map_cons, List.map_nil] at ea
  have e3 : ∀ (x y z : PV) (s : Sto), sLstF [x, y, z] s = .ok (.lst [x, y, z]) s := fun _ _ _ _ => rfl
  simp_all_arith! [sTup1, ea, mSlice, oSome, oNone, neg1_ok, sl_last p _ hp, e3]
  refine forget (P := fun x => ∃ p, x = ppath p ∧ Path p) (I := fun e s => ∃ v3, e = [some (scriptP ns), some (.int z), none, v3, some (ppath p), some (.ref L), some (.int y), some w.pv, some (.int j)] ∧ Dr L s) ?_ ?_ ⟨v3, rfl, dr3⟩ (fun e s ⟨v3, h, d⟩ => ⟨v3, _, _, h, d⟩)
  · rintro x e s4 ⟨p, rfl, hp⟩ ⟨v3, rfl, dr4⟩
    refine ⟨_, rfl, ?_⟩
    simp_all_arith! [law_good_3_ok hw hp]
    exact ⟨_, rfl, dr4⟩
  · intro x hx
    simp only [List.mem_cons, List.not_mem_nil, or_false] at hx
    rcases hx with rfl | rfl | rfl
    · exact ⟨_, rfl, p1⟩
    · exact ⟨_, rfl, p2⟩
    · exact ⟨_, rfl, p3⟩
theorem ring_path (p : List Str) (h : p.all (fun z => wordP (.str z)) = true) (h1 : decide (1 ≤ p.length ∧ p.length ≤ 64) = true) : Path p := by
  have h1 := of_decide_eq_true h1
  exact ⟨fun e => by subst e; simp at h1, h1.2, wd_of h⟩
def pA : List Str := "a" :: List.replicate 63 ("n" : Str)
def pB : List Str := "b" :: (List.replicate 62 ("n" : Str) ++ (["x"] : List Str))
def pC : List Str := "b" :: (List.replicate 61 ("n" : Str) ++ (["x"] : List Str))
def pD : List Str := ["a", "x", "n"]
def pE : List Str := ["q"]
def pF : List Str := "a" :: (List.replicate 62 ("n" : Str) ++ (["x"] : List Str))
theorem rings : ∀ x ∈ ([ppath pA, ppath pB, ppath pC, ppath pD, ppath pE] : List PV), ∃ p, x = ppath p ∧ Path p := by
  intro x hx
  simp only [List.mem_cons, List.not_mem_nil, or_false] at hx
  rcases hx with rfl | rfl | rfl | rfl | rfl
  · exact ⟨pA, rfl, ring_path _ (by decide +kernel) (by decide +kernel)⟩
  · exact ⟨pB, rfl, ring_path _ (by decide +kernel) (by decide +kernel)⟩
  · exact ⟨pC, rfl, ring_path _ (by decide +kernel) (by decide +kernel)⟩
  · exact ⟨pD, rfl, ring_path _ (by decide +kernel) (by decide +kernel)⟩
  · exact ⟨pE, rfl, ring_path _ (by decide +kernel) (by decide +kernel)⟩
theorem s2_ok (env : Lo) (s : Sto) : (mApp sTup (mCons (mApp sTup (mCons (mApp sTup (mCons (mC (.str "open")) (mCons (mApp sTup (mCons (mApp sTup (mCons (mC (.str "n")) (mCons (mApp sTup (mCons (mC (.int 1)) mNil)) mNil))) (mCons (mApp sTup (mCons (mC (.str "x")) (mCons (mC (.int 5)) mNil))) mNil))) mNil))) (mCons (mApp sTup (mCons (mC (.str "frozen")) (mCons (mApp sTup (mCons (mApp sTup (mCons (mC (.str "n")) (mCons (mApp sTup (mCons (mC (.int 0)) mNil)) mNil))) mNil)) mNil))) mNil))) (mCons (mApp sTup (mCons (mApp sTup (mCons (mC (.str "a")) (mCons (mC (.int 0)) mNil))) (mCons (mApp sTup (mCons (mC (.str "b")) (mCons (mC (.int 1)) mNil))) mNil))) mNil))) env s = .ok ringW.pv s := rfl
theorem s3_ok (env : Lo) (s : Sto) : (mApp sLstF (mCons (mBin sAdd (mApp sTup (mCons (mC (.str "a")) mNil)) (mBin sMul (mApp sTup (mCons (mC (.str "n")) mNil)) (mC (.int 63)))) (mCons (mBin sAdd (mBin sAdd (mApp sTup (mCons (mC (.str "b")) mNil)) (mBin sMul (mApp sTup (mCons (mC (.str "n")) mNil)) (mC (.int 62)))) (mApp sTup (mCons (mC (.str "x")) mNil))) (mCons (mBin sAdd (mBin sAdd (mApp sTup (mCons (mC (.str "b")) mNil)) (mBin sMul (mApp sTup (mCons (mC (.str "n")) mNil)) (mC (.int 61)))) (mApp sTup (mCons (mC (.str "x")) mNil))) mNil)))) env s = .ok (.lst [ppath pA, ppath pB, ppath pC]) s := by kernel_rfl
theorem s4_ok (env : Lo) (s : Sto) : (mApp sLstF (mCons (mApp sTup (mCons (mC (.str "a")) (mCons (mC (.str "x")) (mCons (mC (.str "n")) mNil)))) (mCons (mApp sTup (mCons (mC (.str "q")) mNil)) mNil))) env s = .ok (.lst [ppath pD, ppath pE]) s := rfl
theorem s5_ok (env : Lo) (s : Sto) : (mBin sAdd (mBin sAdd (mApp sTup (mCons (mC (.str "a")) mNil)) (mBin sMul (mApp sTup (mCons (mC (.str "n")) mNil)) (mC (.int 62)))) (mApp sTup (mCons (mC (.str "x")) mNil))) env s = .ok (ppath pF) s := by kernel_rfl
theorem s6_ok (s : Sto) : sAdd (.lst [ppath pA, ppath pB, ppath pC]) (.lst [ppath pD, ppath pE]) s = .ok (.lst [ppath pA, ppath pB, ppath pC, ppath pD, ppath pE]) s := rfl
theorem good : ∀ ns : List Int, ns.length ≤ 63 → ∃ st, f_law_3 [scriptP ns] [] = .ok (.bl true) st := by
  intro ns _
  suffices h : wR (f_law_3 [scriptP ns] []) (fun v _ => v = .bl true) by
    obtain ⟨v, s, e, rfl⟩ := h.get
    exact ⟨s, e⟩
  unfold f_law_3
  refine w_defM ?_
  unfold m_law_3
  refine w_cut (M := fun e s => ∃ v1 v3 v4 v5 v6 v7 v8, e = [some (scriptP ns), v1, none, v3, v4, v5, v6, v7, v8]) ?_ ?_
  · obtain ⟨m, hm, em⟩ := turns ns [some (scriptP ns), none, none, none, none, none, none, none, none] [] rfl
    rw [wO_for]
    simp only [List.map_cons, List.map_nil, List.length_cons, List.length_nil, List.replicate, List.cons_append, List.nil_append, Nat.reduceAdd, Nat.reduceSub]
    rw [em, wR_ok]
    refine forget (P := Small 5) (I := fun e s => ∃ v1 v3 v4 v5 v6 v7 v8, e = [some (scriptP ns), v1, none, v3, v4, v5, v6, v7, v8]) ?_ (fun x hx => ?_) ⟨none, none, none, none, none, none, none, rfl⟩ (fun e s h => h)
    · rintro x e s ⟨z, rfl, z0, z1⟩ ⟨v1, v3, v4, v5, v6, v7, v8, rfl⟩
      refine ⟨_, rfl, ?_⟩
      exact (turn_w ns z z0 z1 v3 v4 v5 v6 v7 v8 s).imp (fun e s ⟨w3, w4, w5, w6, w7, w8, h⟩ => ⟨_, w3, w4, w5, w6, w7, w8, h⟩) (fun _ _ h => h)
    · obtain ⟨z, rfl, z0, z1⟩ := range_small m x hx
      exact ⟨z, rfl, z0, by omega⟩
  · rintro e s ⟨v1, v3, v4, v5, v6, v7, v8, rfl⟩
    refine w_cut2 (M := fun e s => ∃ v1 v4 v5 v6 v7 v8, e = [some (scriptP ns), v1, some ringW.pv, some (.lst [ppath pA, ppath pB, ppath pC]), v4, v5, v6, v7, v8]) ?_ ?_
    · rw [wO_seq, wO_set1, s2_ok, wR_ok, wO_set1, s3_ok, wR_ok]
      exact ⟨v1, v4, v5, v6, v7, v8, rfl⟩
    · rintro e s ⟨v1, v4, v5, v6, v7, v8, rfl⟩
      refine w_cut (M := fun e s => ∃ v1 v3 v4 v5 v6 v7 v8, e = [some (scriptP ns), v1, some ringW.pv, v3, v4, v5, v6, v7, v8]) ?_ ?_
      · rw [wO_for]
        have e1 : ∀ s, mIter (mBin sAdd (mVar 3) (mApp sLstF (mCons (mApp sTup (mCons (mC (.str "a")) (mCons (mC (.str "x")) (mCons (mC (.str "n")) mNil)))) (mCons (mApp sTup (mCons (mC (.str "q")) mNil)) mNil)))) [some (scriptP ns), v1, some ringW.pv, some (.lst [ppath pA, ppath pB, ppath pC]), v4, v5, v6, v7, v8] s = .ok [ppath pA, ppath pB, ppath pC, ppath pD, ppath pE] s := by
          intro s
          unfold mIter mBin
          rw [show mVar 3 [some (scriptP ns), v1, some ringW.pv, some (.lst [ppath pA, ppath pB, ppath pC]), v4, v5, v6, v7, v8] s = .ok (.lst [ppath pA, ppath pB, ppath pC]) s from rfl, Res.bind_ok, s4_ok, Res.bind_ok, s6_ok]
          rfl
        rw [e1, wR_ok]
        refine forget (P := fun x => ∃ p, x = ppath p ∧ Path p) (I := fun e s => ∃ v1 v3 v4 v5 v6 v7 v8, e = [some (scriptP ns), v1, some ringW.pv, v3, v4, v5, v6, v7, v8]) ?_ rings ⟨_, _, _, _, _, _, _, rfl⟩ (fun e s h => h)
        rintro x e s ⟨p, rfl, hp⟩ ⟨v1, v3, v4, v5, v6, v7, v8, rfl⟩
        refine ⟨_, rfl, ?_⟩
        simp_all_arith! [law_good_3_ok ring_ok hp]
        exact ⟨_, _, _, _, _, _, _, rfl⟩
      · rintro e s ⟨v1, v3, v4, v5, v6, v7, v8, rfl⟩
        have q1 : ansV ringW (follow ringW pF) = .int 5 := by rw [show follow ringW pF = some (.int 5) by decide +kernel]; rfl
        have q2 : numV (follow ringW ["a", "x"]) = .non := by rw [show follow ringW ["a", "x"] = some (.int 5) by decide +kernel]; rfl
        have q3 : numV (follow ringW ["b", "n"]) = .int 0 := by rw [show follow ringW ["b", "n"] = some (.ref 0) by decide +kernel]; rfl
        have hF : Path pF := ring_path _ (by decide +kernel) (by decide +kernel)
        have hX : Path ["a", "x"] := ring_path _ (by decide +kernel) (by decide +kernel)
        have hN : Path ["b", "n"] := ring_path _ (by decide +kernel) (by decide +kernel)
        have lF := fun s => look_ok ring_ok hF s
        have lX := fun s => place_ok ring_ok hX s
        have lN := fun s => place_ok ring_ok hN s
        have n5 : ∀ s, sEqn true (.int 5) (.int 5) s = .ok (.bl false) s := fun _ => rfl
        have n0 : ∀ s, sEqn false (.int 0) (.int 0) s = .ok (.bl true) s := fun _ => rfl
        have nn : ∀ s, sIsn false .non .non s = .ok (.bl true) s := fun _ => rfl
        have fin : ∀ s, gc [] (.bl true) s = .ok (.bl true) [] := fun s => by
          have := gc_fit (st := []) (s := s) (x := .bl true) rfl (Nat.zero_le _) (fun i a h => absurd h (Nat.not_lt_zero _))
          simpa using this
        rw [q1] at lF
        rw [q2] at lX
        rw [q3] at lN
        simp only [ppath, List.map_cons, List.map_nil] at lX lN
        have step : ∀ s, (cIf (bVal (mBin sNe (mApp (fnN 2 f_look) (mCons (mVar 2) (mCons (mBin sAdd (mBin sAdd (mApp sTup (mCons (mC (.str "a")) mNil)) (mBin sMul (mApp sTup (mCons (mC (.str "n")) mNil)) (mC (.int 62)))) (mApp sTup (mCons (mC (.str "x")) mNil))) mNil))) (mC (.int 5)))) (cRet (mC (.bl false))) cNil)
            [some (scriptP ns), v1, some ringW.pv, v3, v4, v5, v6, v7, v8] s = .nx [some (scriptP ns), v1, some ringW.pv, v3, v4, v5, v6, v7, v8] s := by
          intro s
          have hl : mApp (fnN 2 f_look) (mCons (mVar 2) (mCons (mBin sAdd (mBin sAdd (mApp sTup (mCons (mC (.str "a")) mNil)) (mBin sMul (mApp sTup (mCons (mC (.str "n")) mNil)) (mC (.int 62)))) (mApp sTup (mCons (mC (.str "x")) mNil))) mNil)) [some (scriptP ns), v1, some ringW.pv, v3, v4, v5, v6, v7, v8] s = .ok (.int 5) s := by
            have hv : mVar 2 [some (scriptP ns), v1, some ringW.pv, v3, v4, v5, v6, v7, v8] s = .ok ringW.pv s := rfl
            simp only [mApp, mCons, mNil, hv, s5_ok, Res.bind_ok, fnN, List.length_cons, List.length_nil, if_true, lF]
          refine cIf_f ?_
          simp only [bVal, mBin, hl, mC, Res.bind_ok, n5]
        rw [wO_seq, step, wO_nx]
        simp_all_arith! [sTup2, lX, lN, nn, n0, fin]
end K03

set_option Elab.async false
set_option linter.all false
set_option maxRecDepth 100000
open PySem PySem.W PyProof.Rows
set_option maxHeartbeats 0 in
theorem PySem.Challenge.cw_openfrozen_k03_paths_and_what_they_lead_holds : PySem.Challenge.rw_openfrozen_k03_paths_and_what_they_lead.Holds := by
  w_on; o_law; k_head; (case hw => w_witness2)
  k_fill
  refine Sim.law_end (T := fun _ _ => .none) (l := PySem.Challenge.rw_openfrozen_k03_paths_and_what_they_lead) (n := 63) (k := 9) (x := "script") (F := Pg.f_law_3) rfl (by decide) rfl ⟨rfl, by decide, by decide⟩ (fun w h Y => PySem.W.kIn_of Y) ?F K03.good
  case F =>
    intro w mg fa h KX G hmg
    refine' K03.all_mk KX G hmg ?a13 ?l13 ?c13 ?k13 ?a14 ?l14 ?c14 ?k14 ?a15 ?l15 ?c15 ?k15 ?a16 ?l16 ?c16 ?k16 ?a17 ?l17 ?c17 ?k17 ?a18 ?l18 ?c18 ?k18 ?a19 ?l19 ?c19 ?k19 ?a20 ?l20 ?c20 ?k20 ?a21 ?l21 ?c21 ?k21 ?a23 ?l23 ?c23 ?k23 ?a24 ?l24 ?c24 ?k24 ?a25 ?l25 ?c25 ?k25 ?a26 ?l26 ?c26 ?k26 ?a27 ?l27 ?c27 ?k27 ?a28 ?l28 ?c28 ?k28 ?a29 ?l29 ?c29 ?k29 ?a30 ?l30 ?c30 ?k30 ?a31 ?l31 ?c31 ?k31 ?a32 ?l32 ?c32 ?k32 ?a34 ?l34 ?c34 ?k34 ?a35 ?l35 ?c35 ?k35 ?a36 ?l36 ?c36 ?k36 ?a37 ?l37 ?c37 ?k37 ?a38 ?l38 ?c38 ?k38 ?a39 ?l39 ?c39 ?k39 ?a40 ?l40 ?c40 ?k40 ?a41 ?l41 ?c41 ?k41 ?a42 ?l42 ?c42 ?k42 ?z_all ?z_bool ?z_dict ?z_int ?z_isinstance ?z_len ?z_max ?z_min ?z_range ?z_set ?z_sorted ?z_str ?z_tuple ?n5 ?o5 ?n6 ?n7 ?n8 ?n9 ?n10 ?n11 ?n12
    (case a13 => k_is)
    (case l13 => k_is)
    (case c13 => k_is)
    (case k13 => k_is)
    (case a14 => k_is)
    (case l14 => k_is)
    (case c14 => k_is)
    (case k14 => k_is)
    (case a15 => k_is)
    (case l15 => k_is)
    (case c15 => k_is)
    (case k15 => k_is)
    (case a16 => k_is)
    (case l16 => k_is)
    (case c16 => k_is)
    (case k16 => k_is)
    (case a17 => k_is)
    (case l17 => k_is)
    (case c17 => k_is)
    (case k17 => k_is)
    (case a18 => k_is)
    (case l18 => k_is)
    (case c18 => k_is)
    (case k18 => k_is)
    (case a19 => k_is)
    (case l19 => k_is)
    (case c19 => k_is)
    (case k19 => k_is)
    (case a20 => k_is)
    (case l20 => k_is)
    (case c20 => k_is)
    (case k20 => k_is)
    (case a21 => k_is)
    (case l21 => k_is)
    (case c21 => k_is)
    (case k21 => k_is)
    (case a23 => k_is)
    (case l23 => k_is)
    (case c23 => k_is)
    (case k23 => k_is)
    (case a24 => k_is)
    (case l24 => k_is)
    (case c24 => k_is)
    (case k24 => k_is)
    (case a25 => k_is)
    (case l25 => k_is)
    (case c25 => k_is)
    (case k25 => k_is)
    (case a26 => k_is)
    (case l26 => k_is)
    (case c26 => k_is)
    (case k26 => k_is)
    (case a27 => k_is)
    (case l27 => k_is)
    (case c27 => k_is)
    (case k27 => k_is)
    (case a28 => k_is)
    (case l28 => k_is)
    (case c28 => k_is)
    (case k28 => k_is)
    (case a29 => k_is)
    (case l29 => k_is)
    (case c29 => k_is)
    (case k29 => k_is)
    (case a30 => k_is)
    (case l30 => k_is)
    (case c30 => k_is)
    (case k30 => k_is)
    (case a31 => k_is)
    (case l31 => k_is)
    (case c31 => k_is)
    (case k31 => k_is)
    (case a32 => k_is)
    (case l32 => k_is)
    (case c32 => k_is)
    (case k32 => k_is)
    (case a34 => k_is)
    (case l34 => k_is)
    (case c34 => k_is)
    (case k34 => k_is)
    (case a35 => k_is)
    (case l35 => k_is)
    (case c35 => k_is)
    (case k35 => k_is)
    (case a36 => k_is)
    (case l36 => k_is)
    (case c36 => k_is)
    (case k36 => k_is)
    (case a37 => k_is)
    (case l37 => k_is)
    (case c37 => k_is)
    (case k37 => k_is)
    (case a38 => k_is)
    (case l38 => k_is)
    (case c38 => k_is)
    (case k38 => k_is)
    (case a39 => k_is)
    (case l39 => k_is)
    (case c39 => k_is)
    (case k39 => k_is)
    (case a40 => k_is)
    (case l40 => k_is)
    (case c40 => k_is)
    (case k40 => k_is)
    (case a41 => k_is)
    (case l41 => k_is)
    (case c41 => k_is)
    (case k41 => k_is)
    (case a42 => k_is)
    (case l42 => k_is)
    (case c42 => k_is)
    (case k42 => k_is)
    (case z_all => k_is)
    (case z_bool => k_is)
    (case z_dict => k_is)
    (case z_int => k_is)
    (case z_isinstance => k_is)
    (case z_len => k_is)
    (case z_max => k_is)
    (case z_min => k_is)
    (case z_range => k_is)
    (case z_set => k_is)
    (case z_sorted => k_is)
    (case z_str => k_is)
    (case z_tuple => k_is)
    (case n5 => k_is)
    (case o5 => k_is)
    (case n6 => k_is)
    (case n7 => k_is)
    (case n8 => k_is)
    (case n9 => k_is)
    (case n10 => k_is)
    (case n11 => k_is)
    (case n12 => k_is)
