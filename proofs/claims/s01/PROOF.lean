import PyProof.Rows.All
import Wide.All
import OpenK.AllK
import Wide.FinOn
import Open.SpecLaws
import KE.OsGo
import HandS.ForSpec
import HandS.Comp
import HandS.Iter
import HandS.Zip
import HandS.Deep
import HandS.Evl
import HandS.Codes
import Su203Spec
import PySu203
import KE.GoesNewDict
import KE.KDictDisplayH
import HandS.Conv
import HandS.TupAny
import HandS.TupLen
import PySem.Challenge.RW_flowmoves_s01_answers
set_option Elab.async false
set_option linter.all false
set_option maxRecDepth 100000
set_option maxHeartbeats 4000000
/-! More rules over the hand layer, and short forms: nothing here speaks of the program. -/
namespace Fm
open PySem PySem.Spec PyProof.Rows L2 Evl
open C8 (pe_c pe_mk pe_gc)

/-! ### a def, a class by its name: without defaults -/
abbrev Cal (P : Program) (w : World) (K : PySem.W.Frag) (mg : Str → Option Value) (base : Heap) (k : Nat) (x : Str) (sp : Sp) : Prop := C8.Cal P w K mg base k x sp []
abbrev Mak (P : Program) (w : World) (K : PySem.W.Frag) (mg : Str → Option Value) (base : Heap) (k : Nat) (x : Str) (C : Addr) (sp : Sp) : Prop := C8.Mak P w K mg base k x C sp []
section
variable {X : Cx} {k j : Nat} {C : Addr} {x : Str} {sp : Sp} {p pos : Pos} {e o : Expr} {es : List Expr} {ta tb tx : TE} {t : TA}
/-- C() -/
theorem pe_mk0 (c : Mak X.prog X.w X.K X.mg X.base k x C sp) (room : Room j X.A) (hk : k + 1 ≤ j) (hg : Gl X x) (nd : (x == ("__debug__" : Str)) = false := by decide) :
    PE X (.Call (.Name x p) [] [] pos) (tMake C sp [] E0 tNil) := by
  obtain ⟨_, _, _, _, made, promise, named, binds, given⟩ := c.ex
  exact pe_make0 made promise (room.mono hk) hg named binds given pass0 nd
/-- xs[i] as it is read in xs[i] op= e -/
theorem pget_list : PGet X (rIxL X.K) := by
  intro pins st σ H lv iv v u Q inv rl ri ask
  obtain ⟨l, items, place, found, el, ep, seq, at_, go⟩ := ask
  subst el ep
  cases rl
  obtain ⟨tok, eu⟩ := ri
  subst eu
  have small := line63
  obtain ⟨objs, same, plain, short⟩ := inv.list seq
  have long := same.length
  obtain ⟨n, hn, hat, _, low, high⟩ := atI_get at_
  obtain ⟨obj, hobj, rel⟩ := same.get hat
  have done : EP X pins σ Q obj st := ⟨found, H, inv, rel, go⟩
  rcases Int.lt_or_le place 0 with neg | pos
  · rw [seqIndex_neg neg low] at hn
    have en : (place + (objs.toArray.size : Int)).toNat = n := by rw [List.size_toArray, ← long]; exact Option.some.inj hn
    exact wpAny_getItem_list_neg plain.isList neg (by rw [List.size_toArray] <;> omega) (by omega) (by rw [en]; simpa using hobj) done
  · rw [seqIndex_of pos high] at hn
    have en : place.toNat = n := Option.some.inj hn
    exact wpAny_getItem_list plain.isList pos (by omega) (by rw [en]; simpa using hobj) done
/-- x in a tuple of data of any depth -/
def rInU (K : PySem.W.Frag) : R2 := fun x y H Q => ∃ d ds, Dp K H x d ∧ Dp K H y (.tuple ds) ∧ SeqAt.shaped d = true ∧ SeqAt.shaped (.tuple ds) = true ∧ Q (.bl (ds.any fun z => PyData.eqv z d)) H
theorem room_in_tup {A : Around} {d : PyData} {ds : List PyData} (h : SeqAt.shaped d = true) (hu : A.units + 65 < cLine) : A.units + 1 + min (PyData.depthAll ds) d.depth < cLine := by
  have h1 := SeqAt.depth_of_shaped h
  have h2 : min (PyData.depthAll ds) d.depth ≤ d.depth := Nat.min_le_right _ _
  omega
theorem hu65 {A : Around} {k : Nat} (hr : Room k A) : A.units + 65 < cLine := by
  have := hr.un
  omega
theorem op_inU (hu : X.A.units + 65 < cLine) : OpR X (compareOp .In) (rInU X.K) := by
  intro pins st σ H a b v u Q inv ra rb ask
  obtain ⟨what, all, dw, da, sw, sa, go⟩ := ask
  obtain ⟨_, readB⟩ := Dp.reads inv (.tuple all) b u da rb
  obtain ⟨_, readA⟩ := Dp.reads inv what a v dw ra
  exact SeqAt.in_tuple_reads readB readA (SeqAt.canLay_of_shaped sa) (SeqAt.canLay_of_shaped sw) (room_in_tup sw hu) ⟨.bl _, H, inv, rfl, go⟩
/-- len(set(xs)), xs a list of whole numbers -/
abbrev metOf (ns : List Int) : List Int := PyProof.Rows.firstMet (fun i => ns.getD i 0) ns.length
def tLenSetG (K : PySem.W.Frag) (ta : TE) : TE := fun σ H Q => ta σ H fun x H1 => ∃ (l : Addr) (ns : List Int), x = .ref l ∧ SqL K H1 l (ns.map V.int) ∧ ns.length ≤ 4000 ∧ Q (.int ((metOf ns).length : Nat)) H1
theorem pe_lenSetG {a : Expr} {ta : TE} {p p2 q pos : Pos} (gl : Gl X "len") (nl : X.mg "len" = none) (gs : Gl X "set") (ns : X.mg "set" = none) (ha : PE X a ta) (calm : X.calm = true := by rfl)
    (star : starEach [a] X.env = (false, eval a X.env) :: starEach [] X.env := by rfl) : PE X (.Call (.Name "len" p) [.Call (.Name "set" p2) [a] [] q] [] pos) (tLenSetG X.K ta) := by
  constructor
  intro pins st σ H Q inv ask
  refine Call_ (ld_blt inv gl nl boot_len (PyProof.Rows.callWith_builtin1 (PyProof.Rows.args_cons ?_ rfl) rfl rfl))
  refine Call_ (ld_blt inv gs ns PyProof.Rows.boot_set (PyProof.Rows.callWith_type1 (PyProof.Rows.args_cons (thn (ha.run pins st σ H _ inv ask) fun v st1 ⟨y, H1, inv1, ry, l, nums, ey, seq, most, go⟩ => PyProof.Rows.args_nil ?_) star) star rfl))
  subst ey
  cases ry
  obtain ⟨objs, same, plain, _⟩ := inv1.list seq
  have size : objs.toArray.size = nums.length := by
    rw [List.size_toArray, ← same.length]
    exact List.length_map _
  have few : objs.toArray.size + 1 < scanBound := by
    rw [size]
    unfold scanBound
    omega
  refine call_set_list (inv1.ok.hd calm) plain.isList (by simpa using RZ.intsAre_vals same) few fun heap toks isSet kept => PyProof.Rows.args_nil ?_
  rw [size] at isSet
  obtain ⟨obj, entries, _, table, hobj, exact_, data, _, _, _, fits, count⟩ := isSet
  have inv2 : Inv X pins σ H1 { st1 with heap := heap, toks := toks } := inv1.kept fun b o e => kept b o (Heap.lt_size e) e
  have most2 := PyProof.Rows.firstMet_length_le (fun i => nums.getD i 0) nums.length
  exact call_len_set hobj exact_ data fits (by rw [count] <;> omega) ⟨.int ((metOf nums).length : Nat), H1, inv2.tok _, ⟨_, by rw [count]⟩, go⟩
end

/-! ### what evaluates to what, further -/
section
variable {K : PySem.W.Frag} {σ : L2.St} {H H' : Hp} {ta tb te tx : TE} {t u : TT} {x y z v : V} {D : Ends} {tu tz : TS} {r : R2}
theorem ev_fld {a C dx : Addr} {fs : List (Str × V)} {f : Str} (h : Ev ta σ H (.ref a)) (ho : H a = some (.ins C dx fs)) (hc : Cls K C) (hn : NoAttr K C f) (hl : fs.lookup f = some v) : Ev (tFld K ta f) σ H v := fun H1 e Q q =>
  h H1 e _ fun H2 e2 => ⟨a, C, dx, fs, v, rfl, e2 a _ (e a _ ho), hc, hn, hl, q H2 e2⟩
theorem ev_int {i : Int} : Ev (tC (.int i)) σ H (.int i) := ev_c
theorem ev_get (h : ∀ H1, Ex H H1 → Ev te σ H1 v) : Ev te σ H v := h H (Ex.refl H)
/-- a new list + one that stands -/
theorem el_catN {xs ys : List V} {b : Addr} (ha : EvL ta σ H xs) (hb : Ev tb σ H (.ref b)) (hy : H b = some (.lst ys)) (hz : xs.length + ys.length ≤ 100000) : EvL (tOp rCat ta tb) σ H (xs ++ ys) := fun H1 e Q q =>
  ha H1 e _ fun p H2 _ e2 hp => hb H2 (e.trans e2) _ fun H3 e3 => ⟨p, b, xs, ys, rfl, rfl, e3 _ _ hp, ((e.trans e2).trans e3) _ _ hy, sz_of hz, fun q' hq => q q' _ (fresh_back (e2.trans e3) hq) ((e2.trans e3).trans (Ex.new hq)) upd_same⟩
/-- a tuple of two tuples, all new -/
theorem eu_tup2 {xs ys : List V} (h1 : EvU ta σ H xs) (h2 : EvU tb σ H ys) : ∀ H1, Ex H H1 → ∀ Q : VK, (∀ p1 p2 p H2, Ex H1 H2 → H2 p1 = some (.tup xs) → H2 p2 = some (.tup ys) → H2 p = some (.tup [.ref p1, .ref p2]) → Q (.ref p) H2) → tTup (tCons ta (tCons tb tNil)) σ H1 Q := fun H1 e Q q =>
  h1 H1 e _ fun p1 H2 _ e2 hp1 => h2 H2 (e.trans e2) _ fun p2 H3 _ e3 hp2 => ⟨by show 2 ≤ sizeLine; decide, fun p hp => q p1 p2 p _ ((e2.trans e3).trans (Ex.new hp)) (Ex.new hp _ _ (e3 _ _ hp1)) (Ex.new hp _ _ hp2) upd_same⟩
/-- a list that is read -/
theorem ev_lenS {ys : List V} {p : Addr} (ha : Ev ta σ H (.ref p)) (h : SqL K H p ys ∨ SqT K H p ys) : Ev (tCB (rLenS K) (tCons ta tNil)) σ H (.int (ys.length : Int)) := fun H1 e Q q =>
  ha H1 e _ fun H2 e2 => ⟨p, ys, rfl, h.imp (ex_l (e.trans e2)) (ex_t (e.trans e2)), q H2 e2⟩
theorem ev_eq (ha : Ev ta σ H x) (hb : Ev tb σ H y) (h : scal x y = true) : Ev (tOp rEq ta tb) σ H (.bl (decide (x = y))) := ev_op ha hb (rv_eq h)
theorem ev_I0 {g : Int → Int → V} {i j : Int} (ha : Ev ta σ H (.int i)) (hb : Ev tb σ H (.int j)) : Ev (tOp (rI0 g) ta tb) σ H (g i j) := ev_op ha hb rv_I0
theorem ev_isN (ha : Ev ta σ H x) : Ev (tOp (fun x y H Q => y = .non ∧ Q (.bl (decide (x = .non))) H) ta (tC .non)) σ H (.bl (decide (x = .non))) := fun H1 e Q q => ha H1 e _ fun H2 e2 => ⟨rfl, q H2 e2⟩
theorem ev_notN (ha : Ev ta σ H x) : Ev (tOp (fun x y H Q => y = .non ∧ Q (.bl (!decide (x = .non))) H) ta (tC .non)) σ H (.bl (!decide (x = .non))) := fun H1 e Q q => ha H1 e _ fun H2 e2 => ⟨rfl, q H2 e2⟩
theorem ev_ixL {p : Addr} {xs : List V} {j : Nat} (ha : Ev ta σ H (.ref p)) (hb : Ev tb σ H (.int (j : Int))) (h : SqL K H p xs) (hj : xs[j]? = some v) : Ev (tOp (rIxL K) ta tb) σ H v := ev_op ha hb (rv_ixL h (atI_nat hj))
theorem ev_ixT {p : Addr} {xs : List V} {j : Nat} (ha : Ev ta σ H (.ref p)) (hb : Ev tb σ H (.int (j : Int))) (h : SqT K H p xs) (hj : xs[j]? = some v) : Ev (tOp (rIxT K) ta tb) σ H v := ev_op ha hb (rv_ixT h (atI_nat hj))
theorem ev_lenSetG {l : Addr} {ns : List Int} (ha : Ev ta σ H (.ref l)) (h : SqL K H l (ns.map V.int)) (hz : ns.length ≤ 4000) : Ev (tLenSetG K ta) σ H (.int ((metOf ns).length : Nat)) := fun H1 e Q q =>
  ha H1 e _ fun H2 e2 => ⟨l, ns, rfl, ex_l (e.trans e2) h, hz, q H2 e2⟩
theorem et_eq {b : Bool} (ha : Ev ta σ H x) (hb : Ev tb σ H y) (h : scal x y = true) (e : decide (x = y) = b) : EvT (tTest (tOp rEq ta tb)) σ H b := by
  rw [← e]
  exact et_test (ev_eq ha hb h)
theorem et_val {b : Bool} (h : Ev te σ H (.bl b)) : EvT (tB te) σ H b := et_B h
/-- o.f = e -/
theorem s_fld {a C dx : Addr} {fs : List (Str × V)} {f : Str} (hv : Ev tb σ H v) (h : Ev ta σ H (.ref a)) (ho : H a = some (.ins C dx fs)) (hc : Cls K C) (hn : NoAttr K C f) (hl : fs.length < 1000)
    (k : ∀ H1, Ex H H1 → D.nx σ (upd H1 a (.ins C dx (putF f v fs)))) : sFld K ta tb f D σ H :=
  hv H (Ex.refl H) _ fun H1 e1 => h H1 e1 _ fun H2 e2 => ⟨a, C, dx, fs, rfl, e2 a _ (e1 a _ ho), hc, hn, hl, k H2 (e1.trans e2)⟩
theorem q_fld {a C dx : Addr} {fs : List (Str × V)} {f : Str} (hv : Ev tb σ H v) (h : Ev ta σ H (.ref a)) (ho : H a = some (.ins C dx fs)) (hc : Cls K C) (hn : NoAttr K C f) (hl : fs.length < 1000)
    (k : ∀ H1, Ex H H1 → tz D σ (upd H1 a (.ins C dx (putF f v fs)))) : tSeq (sFld K ta tb f) tz D σ H := s_fld (D := { D with nx := tz D }) hv h ho hc hn hl k
/-- xs[j] += e, whole numbers -/
theorem s_augL {l : Addr} {xs : List V} {j : Nat} {f : Int → Int → Int} {a b : Int} (ho : Ev ta σ H (.ref l)) (hi : Ev tb σ H (.int (j : Int))) (hl : H l = some (.lst xs)) (hx : xs[j]? = some (.int a)) (h : Ev te σ H (.int b))
    (k : ∀ H1, Ex H H1 → D.nx σ (upd H1 l (.lst (xs.set j (.int (f a b)))))) : tAugS ta tb te (rIxL K) (ipI f) rSetL D σ H :=
  ho H (Ex.refl H) _ fun H1 e1 => hi H1 e1 _ fun H2 e2 => ⟨l, xs, (j : Int), .int a, rfl, rfl, sq_of ((e1.trans e2) l _ hl), atI_nat hx, h H2 (e1.trans e2) _ fun H3 e3 =>
    ⟨a, b, rfl, rfl, l, xs, (j : Int), j, rfl, rfl, ((e1.trans e2).trans e3) l _ hl, ixN_nat (List.getElem?_eq_some_iff.mp hx).1, k H3 ((e1.trans e2).trans e3)⟩⟩
/-- for a, b in zip(xs, ys): the slots i and j -/
def zipG (K : PySem.W.Frag) (i j : Nat) : TG := gTup K 2 (gCons (gName i) (gCons (gName j) gNil))
theorem zipG_go {i j : Nat} {T : Addr} {Q : L2.St → Hp → Prop} (hT : H T = some (.tup [x, y])) (q : Q ((σ.set i (some x)).set j (some y)) H) : zipG K i j (.ref T) σ H Q :=
  ⟨T, [x, y], rfl, st_of hT, rfl, x, [y], rfl, y, [], rfl, rfl, q⟩
/-- two lists as arguments: as they lie, or made on the way -/
def ZipA (K : PySem.W.Frag) (ta : TA) (σ : L2.St) (H : Hp) (xs ys : List V) : Prop := ∀ H0, Ex H H0 → ∀ Q : List V → Hp → Prop, (∀ a b H1, Ex H0 H1 → SqL K H1 a xs → SqL K H1 b ys → Q [.ref a, .ref b] H1) → ta σ H0 Q
theorem zipA_oo {a b : Addr} {xs ys : List V} (ha : Ev ta σ H (.ref a)) (hb : Ev tb σ H (.ref b)) (hx : SqL K H a xs) (hy : SqL K H b ys) : ZipA K (tCons ta (tCons tb tNil)) σ H xs ys := fun H0 e Q q =>
  ha H0 e _ fun H1 e1 => hb H1 (e.trans e1) _ fun H2 e2 => q a b H2 (e1.trans e2) (ex_l ((e.trans e1).trans e2) hx) (ex_l ((e.trans e1).trans e2) hy)
theorem zipA_on {a : Addr} {xs ys : List V} (ha : Ev ta σ H (.ref a)) (hb : EvL tb σ H ys) (hx : SqL K H a xs) : ZipA K (tCons ta (tCons tb tNil)) σ H xs ys := fun H0 e Q q =>
  ha H0 e _ fun H1 e1 => hb H1 (e.trans e1) _ fun b H2 _ e2 hy => q a b H2 (e1.trans e2) (ex_l ((e.trans e1).trans e2) hx) (sq_of hy)
theorem zipA_no {b : Addr} {xs ys : List V} (ha : EvL ta σ H xs) (hb : Ev tb σ H (.ref b)) (hy : SqL K H b ys) : ZipA K (tCons ta (tCons tb tNil)) σ H xs ys := fun H0 e Q q =>
  ha H0 e _ fun a H1 _ e1 hx => hb H1 (e.trans e1) _ fun H2 e2 => q a b H2 (e1.trans e2) (sq_of (e2 _ _ hx)) (ex_l ((e.trans e1).trans e2) hy)
theorem s_forZ {ta : TA} {xs ys : List V} {i1 i2 : Nat} (h : ZipA K ta σ H xs ys) (Pv : Addr → Addr → Nat → L2.St → Hp → Prop) (h0 : ∀ a b H1, Ex H H1 → SqL K H1 a xs → SqL K H1 b ys → Pv a b 0 σ H1)
    (hl : ∀ a b i σ' H', Pv a b i σ' H' → SqL K H' a xs ∧ SqL K H' b ys)
    (hs : ∀ a b i x y σ' H', xs[i]? = some x → ys[i]? = some y → Pv a b i σ' H' → ∀ H1, Ex H' H1 → tu { D with nx := Pv a b (i + 1), ct := Pv a b (i + 1), bk := D.nx } ((σ'.set i1 (some x)).set i2 (some y)) H1)
    (hd : ∀ a b σ' H', Pv a b (min xs.length ys.length) σ' H' → D.nx σ' H') : tFor (iZip K ta) (zipG K i1 i2) tu D σ H :=
  h H (Ex.refl H) _ fun a b H1 e hx hy => ⟨a, b, xs, ys, rfl, hx, hy, ⟨fun i m σ H => m = min xs.length ys.length - i ∧ i ≤ min xs.length ys.length ∧ Pv a b i σ H, ⟨min xs.length ys.length, rfl, Nat.zero_le _, h0 a b H1 e hx hy⟩, by
    rintro i m σ H ⟨rfl, hi, p⟩
    obtain ⟨qx, qy⟩ := hl a b i σ H p
    by_cases hlt : i < min xs.length ys.length
    · have hlx : i < xs.length := by omega
      have hly : i < ys.length := by omega
      have gx : xs[i]? = some xs[i] := List.getElem?_eq_getElem hlx
      have gy : ys[i]? = some ys[i] := List.getElem?_eq_getElem hly
      refine .inr ⟨⟨xs, ys, _, _, qx, qy, gx, gy⟩, Pv a b (i + 1), fun σ' H' p' => ⟨min xs.length ys.length - (i + 1), by omega, rfl, hlt, p'⟩, fun v H' hv => ?_⟩
      obtain ⟨T, x', y', rfl, nT, rfl, f1, f2⟩ := hv
      have ex1 : x' = xs[i] := Option.some.inj ((f1 _ qx).symm.trans gx)
      have ex2 : y' = ys[i] := Option.some.inj ((f2 _ qy).symm.trans gy)
      subst ex1 ex2
      exact zipG_go upd_same (hs a b i _ _ σ H gx gy p _ (Ex.new nT))
    · have hi' : i = min xs.length ys.length := by omega
      subst hi'
      exact .inl ⟨⟨xs, ys, qx, qy, by omega⟩, hd a b σ H p⟩⟩⟩
/-- the same over two lists that stand -/
theorem s_forZo {ta : TA} {a b : Addr} {xs ys : List V} {i1 i2 : Nat} (h : EvA ta σ H [.ref a, .ref b]) (hx : SqL K H a xs) (hy : SqL K H b ys) (Pv : Nat → L2.St → Hp → Prop) (h0 : ∀ H1, Ex H H1 → Pv 0 σ H1)
    (hl : ∀ i σ' H', Pv i σ' H' → SqL K H' a xs ∧ SqL K H' b ys)
    (hs : ∀ i x y σ' H', xs[i]? = some x → ys[i]? = some y → Pv i σ' H' → ∀ H1, Ex H' H1 → tu { D with nx := Pv (i + 1), ct := Pv (i + 1), bk := D.nx } ((σ'.set i1 (some x)).set i2 (some y)) H1)
    (hd : ∀ σ' H', Pv (min xs.length ys.length) σ' H' → D.nx σ' H') : tFor (iZip K ta) (zipG K i1 i2) tu D σ H :=
  h H (Ex.refl H) _ fun H1 e => ⟨a, b, xs, ys, rfl, ex_l e hx, ex_l e hy, ⟨fun i m σ H => m = min xs.length ys.length - i ∧ i ≤ min xs.length ys.length ∧ Pv i σ H, ⟨min xs.length ys.length, rfl, Nat.zero_le _, h0 H1 e⟩, by
    rintro i m σ H ⟨rfl, hi, p⟩
    obtain ⟨qx, qy⟩ := hl i σ H p
    by_cases hlt : i < min xs.length ys.length
    · have hlx : i < xs.length := by omega
      have hly : i < ys.length := by omega
      have gx : xs[i]? = some xs[i] := List.getElem?_eq_getElem hlx
      have gy : ys[i]? = some ys[i] := List.getElem?_eq_getElem hly
      refine .inr ⟨⟨xs, ys, _, _, qx, qy, gx, gy⟩, Pv (i + 1), fun σ' H' p' => ⟨min xs.length ys.length - (i + 1), by omega, rfl, hlt, p'⟩, fun v H' hv => ?_⟩
      obtain ⟨T, x', y', rfl, nT, rfl, f1, f2⟩ := hv
      have ex1 : x' = xs[i] := Option.some.inj ((f1 _ qx).symm.trans gx)
      have ex2 : y' = ys[i] := Option.some.inj ((f2 _ qy).symm.trans gy)
      subst ex1 ex2
      exact zipG_go upd_same (hs i _ _ σ H gx gy p _ (Ex.new nT))
    · have hi' : i = min xs.length ys.length := by omega
      subst hi'
      exact .inl ⟨⟨xs, ys, qx, qy, by omega⟩, hd σ H p⟩⟩⟩
theorem q_forZo {ta : TA} {a b : Addr} {xs ys : List V} {i1 i2 : Nat} (h : EvA ta σ H [.ref a, .ref b]) (hx : SqL K H a xs) (hy : SqL K H b ys) (Pv : Nat → L2.St → Hp → Prop) (h0 : ∀ H1, Ex H H1 → Pv 0 σ H1)
    (hl : ∀ i σ' H', Pv i σ' H' → SqL K H' a xs ∧ SqL K H' b ys)
    (hs : ∀ i x y σ' H', xs[i]? = some x → ys[i]? = some y → Pv i σ' H' → ∀ H1, Ex H' H1 → tu { D with nx := Pv (i + 1), ct := Pv (i + 1), bk := tz D } ((σ'.set i1 (some x)).set i2 (some y)) H1)
    (hd : ∀ σ' H', Pv (min xs.length ys.length) σ' H' → tz D σ' H') : tSeq (tFor (iZip K ta) (zipG K i1 i2) tu) tz D σ H :=
  s_forZo (D := { D with nx := tz D }) h hx hy Pv h0 hl hs hd
theorem q_forZ {ta : TA} {xs ys : List V} {i1 i2 : Nat} (h : ZipA K ta σ H xs ys) (Pv : Addr → Addr → Nat → L2.St → Hp → Prop) (h0 : ∀ a b H1, Ex H H1 → SqL K H1 a xs → SqL K H1 b ys → Pv a b 0 σ H1)
    (hl : ∀ a b i σ' H', Pv a b i σ' H' → SqL K H' a xs ∧ SqL K H' b ys)
    (hs : ∀ a b i x y σ' H', xs[i]? = some x → ys[i]? = some y → Pv a b i σ' H' → ∀ H1, Ex H' H1 → tu { D with nx := Pv a b (i + 1), ct := Pv a b (i + 1), bk := tz D } ((σ'.set i1 (some x)).set i2 (some y)) H1)
    (hd : ∀ a b σ' H', Pv a b (min xs.length ys.length) σ' H' → tz D σ' H') : tSeq (tFor (iZip K ta) (zipG K i1 i2) tu) tz D σ H :=
  s_forZ (D := { D with nx := tz D }) h Pv h0 hl hs hd
/-- the first list new, the second one stands -/
theorem s_forZn {ta tb : TE} {b : Addr} {xs ys : List V} {i1 i2 : Nat} (ha : EvL ta σ H xs) (hb : Ev tb σ H (.ref b)) (hy : SqL K H b ys) (Pv : Addr → Nat → L2.St → Hp → Prop) (h0 : ∀ a H1, H a = none → Ex H H1 → H1 a = some (.lst xs) → Pv a 0 σ H1)
    (hl : ∀ a i σ' H', Pv a i σ' H' → SqL K H' a xs ∧ SqL K H' b ys)
    (hs : ∀ a i x y σ' H', xs[i]? = some x → ys[i]? = some y → Pv a i σ' H' → ∀ H1, Ex H' H1 → tu { D with nx := Pv a (i + 1), ct := Pv a (i + 1), bk := D.nx } ((σ'.set i1 (some x)).set i2 (some y)) H1)
    (hd : ∀ a σ' H', Pv a (min xs.length ys.length) σ' H' → D.nx σ' H') : tFor (iZip K (tCons ta (tCons tb tNil))) (zipG K i1 i2) tu D σ H :=
  ha H (Ex.refl H) _ fun a H0 na e0 hx => hb H0 e0 _ fun H1 e1 => ⟨a, b, xs, ys, rfl, sq_of (e1 _ _ hx), ex_l (e0.trans e1) hy, ⟨fun i m σ H => m = min xs.length ys.length - i ∧ i ≤ min xs.length ys.length ∧ Pv a i σ H, ⟨min xs.length ys.length, rfl, Nat.zero_le _, h0 a H1 na (e0.trans e1) (e1 _ _ hx)⟩, by
    rintro i m σ H ⟨rfl, hi, p⟩
    obtain ⟨qx, qy⟩ := hl a i σ H p
    by_cases hlt : i < min xs.length ys.length
    · have hlx : i < xs.length := by omega
      have hly : i < ys.length := by omega
      have gx : xs[i]? = some xs[i] := List.getElem?_eq_getElem hlx
      have gy : ys[i]? = some ys[i] := List.getElem?_eq_getElem hly
      refine .inr ⟨⟨xs, ys, _, _, qx, qy, gx, gy⟩, Pv a (i + 1), fun σ' H' p' => ⟨min xs.length ys.length - (i + 1), by omega, rfl, hlt, p'⟩, fun v H' hv => ?_⟩
      obtain ⟨T, x', y', rfl, nT, rfl, f1, f2⟩ := hv
      have ex1 : x' = xs[i] := Option.some.inj ((f1 _ qx).symm.trans gx)
      have ex2 : y' = ys[i] := Option.some.inj ((f2 _ qy).symm.trans gy)
      subst ex1 ex2
      exact zipG_go upd_same (hs a i _ _ σ H gx gy p _ (Ex.new nT))
    · have hi' : i = min xs.length ys.length := by omega
      subst hi'
      exact .inl ⟨⟨xs, ys, qx, qy, by omega⟩, hd a σ H p⟩⟩⟩
theorem q_forZn {ta tb : TE} {b : Addr} {xs ys : List V} {i1 i2 : Nat} (ha : EvL ta σ H xs) (hb : Ev tb σ H (.ref b)) (hy : SqL K H b ys) (Pv : Addr → Nat → L2.St → Hp → Prop) (h0 : ∀ a H1, H a = none → Ex H H1 → H1 a = some (.lst xs) → Pv a 0 σ H1)
    (hl : ∀ a i σ' H', Pv a i σ' H' → SqL K H' a xs ∧ SqL K H' b ys)
    (hs : ∀ a i x y σ' H', xs[i]? = some x → ys[i]? = some y → Pv a i σ' H' → ∀ H1, Ex H' H1 → tu { D with nx := Pv a (i + 1), ct := Pv a (i + 1), bk := tz D } ((σ'.set i1 (some x)).set i2 (some y)) H1)
    (hd : ∀ a σ' H', Pv a (min xs.length ys.length) σ' H' → tz D σ' H') : tSeq (tFor (iZip K (tCons ta (tCons tb tNil))) (zipG K i1 i2) tu) tz D σ H :=
  s_forZn (D := { D with nx := tz D }) ha hb hy Pv h0 hl hs hd
/-- for i, x in enumerate(xs) -/
theorem s_forE {ta : TA} {a : Addr} {xs : List V} {i1 i2 : Nat} (h : EvA ta σ H [.ref a]) (hx : SqL K H a xs) (Pv : Nat → L2.St → Hp → Prop) (h0 : ∀ H1, Ex H H1 → Pv 0 σ H1)
    (hl : ∀ i σ' H', Pv i σ' H' → SqL K H' a xs)
    (hs : ∀ (i : Nat) x σ' H', xs[i]? = some x → Pv i σ' H' → ∀ H1, Ex H' H1 → tu { D with nx := Pv (i + 1), ct := Pv (i + 1), bk := D.nx } ((σ'.set i1 (some (.int (i : Int)))).set i2 (some x)) H1)
    (hd : ∀ σ' H', Pv xs.length σ' H' → D.nx σ' H') : tFor (iEnum K ta) (zipG K i1 i2) tu D σ H :=
  h H (Ex.refl H) _ fun H1 e => ⟨a, xs, rfl, ex_l e hx, ⟨fun i m σ H => m = xs.length - i ∧ i ≤ xs.length ∧ Pv i σ H, ⟨xs.length, rfl, Nat.zero_le _, h0 H1 e⟩, by
    rintro i m σ H ⟨rfl, hi, p⟩
    have qx := hl i σ H p
    by_cases hlt : i < xs.length
    · have gx : xs[i]? = some xs[i] := List.getElem?_eq_getElem hlt
      refine .inr ⟨⟨xs, _, qx, gx⟩, Pv (i + 1), fun σ' H' p' => ⟨xs.length - (i + 1), by omega, rfl, hlt, p'⟩, fun v H' hv => ?_⟩
      obtain ⟨T, x', rfl, nT, rfl, f1⟩ := hv
      have ex1 : x' = xs[i] := Option.some.inj ((f1 _ qx).symm.trans gx)
      subst ex1
      exact zipG_go upd_same (hs i _ σ H gx p _ (Ex.new nT))
    · have hi' : i = xs.length := by omega
      subst hi'
      exact .inl ⟨⟨xs, qx, Nat.le_refl _⟩, hd σ H p⟩⟩⟩
theorem q_forE {ta : TA} {a : Addr} {xs : List V} {i1 i2 : Nat} (h : EvA ta σ H [.ref a]) (hx : SqL K H a xs) (Pv : Nat → L2.St → Hp → Prop) (h0 : ∀ H1, Ex H H1 → Pv 0 σ H1)
    (hl : ∀ i σ' H', Pv i σ' H' → SqL K H' a xs)
    (hs : ∀ (i : Nat) x σ' H', xs[i]? = some x → Pv i σ' H' → ∀ H1, Ex H' H1 → tu { D with nx := Pv (i + 1), ct := Pv (i + 1), bk := tz D } ((σ'.set i1 (some (.int (i : Int)))).set i2 (some x)) H1)
    (hd : ∀ σ' H', Pv xs.length σ' H' → tz D σ' H') : tSeq (tFor (iEnum K ta) (zipG K i1 i2) tu) tz D σ H :=
  s_forE (D := { D with nx := tz D }) h hx Pv h0 hl hs hd
theorem et_yes : EvT tYes σ H true := fun H1 _ _ q => q H1 (Ex.refl H1)
theorem given_all (n : Nat) (v : Nat → V) : given n (fun _ => true) v = (List.range n).map v := by
  unfold given
  rw [List.filter_eq_self.mpr (fun _ _ => rfl)]
/-- [e for a, b in zip(xs, ys)] -/
theorem el_lcZ {ta : TA} {xs ys : List V} {i1 i2 : Nat} {vs : List Nat} (f : Nat → Bool) (v : Nat → V) (h : ZipA K ta σ H xs ys) (hz : xs.length ≤ 40000)
    (hw : ∀ x y, wipe (((wipe σ vs).set i1 (some x)).set i2 (some y)) vs = wipe σ vs)
    (ht : ∀ (i : Nat) (x y : V) H1, Ex H H1 → xs[i]? = some x → ys[i]? = some y → EvT t (((wipe σ vs).set i1 (some x)).set i2 (some y)) H1 (f i))
    (he : ∀ (i : Nat) (x y : V) H1, Ex H H1 → xs[i]? = some x → ys[i]? = some y → f i = true → Ev te (((wipe σ vs).set i1 (some x)).set i2 (some y)) H1 (v i)) :
    EvL (tLc (iZip K ta) (zipG K i1 i2) t te vs) σ H (given (min xs.length ys.length) f v) := fun H0 e Q q => h H0 e _ fun a b H1 e1 hx hy => ⟨a, b, xs, ys, rfl, hx, hy, fun Dl hD => ⟨fun i m H' => m = min xs.length ys.length - i ∧ i ≤ min xs.length ys.length ∧ Cw H1 f v Dl i H',
      ⟨min xs.length ys.length, rfl, Nat.zero_le _, hD, Ex.new hD, upd_same⟩, by
    rintro i m H' ⟨rfl, hi, p⟩
    have qx : SqL K H' a xs := ex_l p.2.1 hx
    have qy : SqL K H' b ys := ex_l p.2.1 hy
    by_cases hlt : i < min xs.length ys.length
    · have gx : xs[i]? = some xs[i] := List.getElem?_eq_getElem (by omega)
      have gy : ys[i]? = some ys[i] := List.getElem?_eq_getElem (by omega)
      refine .inr ⟨⟨xs, ys, _, _, qx, qy, gx, gy⟩, Cw H1 f v Dl (i + 1), fun H2 p' => ⟨min xs.length ys.length - (i + 1), by omega, rfl, hlt, p'⟩, fun u H2 hu => ?_⟩
      obtain ⟨T, x', y', rfl, nT, rfl, f1, f2⟩ := hu
      have ex1 : x' = xs[i] := Option.some.inj ((f1 _ qx).symm.trans gx)
      have ex2 : y' = ys[i] := Option.some.inj ((f2 _ qy).symm.trans gy)
      subst ex1 ex2
      have p2 : Cw H1 f v Dl i (upd H' T (.tup [xs[i], ys[i]])) := ⟨p.1, p.2.1.trans (Ex.new nT), Ex.new nT _ _ p.2.2⟩
      exact zipG_go upd_same ⟨hw _ _, cw_turn p2 (by omega) (ht i _ _ H1 (e.trans e1) gx gy) (fun hf => he i _ _ H1 (e.trans e1) gx gy hf)⟩
    · have hi' : i = min xs.length ys.length := by omega
      subst hi'
      exact .inl ⟨⟨xs, ys, qx, qy, by omega⟩, q Dl H' (fresh_back e1 p.1) (e1.trans p.2.1) p.2.2⟩⟩⟩
/-- the heap grown, as Same -/
theorem ex_same (e : Ex H H') : Same H H' := e
end
end Fm

set_option linter.all false
/-! The specification's state: what is always so of it, and what one flow's change does to the loads. Nothing of the program. -/
namespace FmS
open Su203
theorem sum_congr {l : List Nat} {f g : Nat → Nat} (h : ∀ x ∈ l, f x = g x) : (l.map f).sum = (l.map g).sum := by
  rw [List.map_congr_left h]
theorem range_split {n k : Nat} (h : k < n) (f : Nat → Nat) : ((List.range n).map f).sum = ((List.range n).map fun i => if i = k then 0 else f i).sum + f k := by
  induction n with
  | zero => omega
  | succ n ih =>
    rw [List.range_succ, List.map_append, List.map_append, List.sum_append, List.sum_append]
    show _ + (f n + 0) = _ + ((if n = k then 0 else f n) + 0) + f k
    by_cases e : k = n
    · subst e
      rw [if_pos rfl]
      have : ((List.range k).map fun i => if i = k then 0 else f i) = (List.range k).map f := List.map_congr_left fun x hx => by
        have := List.mem_range.mp hx
        rw [if_neg (by omega)]
      rw [this]
      omega
    · rw [if_neg (fun z => e z.symm), ih (by omega)]
      omega
abbrev part (w : Network) (s : List Nat) (j f : Nat) : Nat := if (w.usedLinks f (s.getD f 0)).contains j = true then (w.flow f).demand else 0
theorem load_eq (w : Network) (s : List Nat) (j : Nat) : w.load s j = ((List.range w.flows.length).map (part w s j)).sum := rfl
/-- the load less one flow's part -/
def rest (w : Network) (s : List Nat) (f j : Nat) : Nat := ((List.range w.flows.length).map fun i => if i = f then 0 else part w s j i).sum
theorem load_split {w : Network} {s : List Nat} {f : Nat} (h : f < w.flows.length) (j : Nat) : w.load s j = rest w s f j + part w s j f := range_split h _
theorem getD_set_same {s : List Nat} {f v : Nat} (h : f < s.length) : (s.set f v).getD f 0 = v := by
  rw [List.getD_eq_getElem?_getD, List.getElem?_set_self h]
  rfl
theorem getD_set_ne {s : List Nat} {f i v : Nat} (h : i ≠ f) : (s.set f v).getD i 0 = s.getD i 0 := by
  rw [List.getD_eq_getElem?_getD, List.getD_eq_getElem?_getD, List.getElem?_set_ne (fun z => h z.symm)]
theorem rest_set (w : Network) (s : List Nat) (f v j : Nat) : rest w (s.set f v) f j = rest w s f j := by
  unfold rest
  refine sum_congr fun i _ => ?_
  by_cases e : i = f
  · rw [if_pos e, if_pos e]
  · rw [if_neg e, if_neg e]
    unfold part
    rw [getD_set_ne e]
theorem load_set {w : Network} {s : List Nat} {f v : Nat} (h : f < w.flows.length) (hs : f < s.length) (j : Nat) : w.load (s.set f v) j = rest w s f j + (if (w.usedLinks f v).contains j = true then (w.flow f).demand else 0) := by
  rw [load_split h, rest_set]
  unfold part
  rw [getD_set_same hs]
theorem load_free {w : Network} {s : List Nat} {f : Nat} (h : f < w.flows.length) (h0 : s.getD f 0 = 0) (j : Nat) : w.load s j = rest w s f j := by
  rw [load_split h]
  unfold part
  rw [h0]
  show _ + (if ([] : List Nat).contains j = true then _ else 0) = _
  simp
theorem feasible_iff {w : Network} {s : List Nat} : w.isFeasible s = true ↔ ∀ j, j < w.links.length → w.load s j ≤ (w.link j).capacity := by
  unfold Network.isFeasible
  rw [List.all_eq_true]
  constructor
  · intro h j hj
    exact of_decide_eq_true (h j (List.mem_range.mpr hj))
  · intro h j hj
    exact decide_eq_true (h j (List.mem_range.mp hj))
/-- placing an inactive flow: room on its path's links is all that is asked -/
theorem place_iff {w : Network} {s : List Nat} {f v : Nat} (h : f < w.flows.length) (hs : f < s.length) (h0 : s.getD f 0 = 0) (hf : w.isFeasible s = true) (hl : ∀ k ∈ w.usedLinks f v, k < w.links.length) :
    w.isFeasible (s.set f v) = (w.usedLinks f v).all fun k => decide (w.load s k + (w.flow f).demand ≤ (w.link k).capacity) := by
  rw [Bool.eq_iff_iff, feasible_iff, List.all_eq_true]
  rw [feasible_iff] at hf
  constructor
  · intro q k hk
    refine decide_eq_true ?_
    have := q k (hl k hk)
    rw [load_set h hs, if_pos (by simpa using hk)] at this
    rw [load_free h h0]
    exact this
  · intro q j hj
    rw [load_set h hs]
    by_cases e : (w.usedLinks f v).contains j = true
    · rw [if_pos e]
      have := of_decide_eq_true (q j (by simpa using e))
      rw [load_free h h0] at this
      exact this
    · rw [if_neg e, Nat.add_zero, ← load_free h h0]
      exact hf j hj
/-- an allowed move keeps feasibility -/
theorem move_feasible {w : Network} {s : List Nat} {f v : Nat} (h : f < w.flows.length) (hs : f < s.length) (hf : w.isFeasible s = true)
    (hr : ∀ k ∈ w.usedLinks f v, (w.usedLinks f (s.getD f 0)).contains k = true ∨ w.load s k + (w.flow f).demand ≤ (w.link k).capacity) : w.isFeasible (s.set f v) = true := by
  rw [feasible_iff] at hf ⊢
  intro j hj
  rw [load_set h hs]
  have h1 := hf j hj
  rw [load_split h (s := s)] at h1
  by_cases e : (w.usedLinks f v).contains j = true
  · rw [if_pos e]
    rcases hr j (by simpa using e) with q | q
    · unfold part at h1
      rw [if_pos q] at h1
      exact h1
    · rw [load_split h (s := s)] at q
      unfold part at q
      omega
  · rw [if_neg e]
    omega
/-! ### what is always so -/
structure FOk (w : Network) (f : Flow) : Prop where
  few : f.pathLinks.length ≤ 3
  same : f.pathNodes.length = f.pathLinks.length
  nd : ∀ p ∈ f.pathLinks, p.Nodup ∧ p.length ≤ 8 ∧ ∀ k ∈ p, k < w.links.length
  sh : ∀ p ∈ f.pathNodes, p.length ≤ 8
structure SpOk (w : Network) : Prop where
  n : 2 ≤ w.nodes ∧ w.nodes ≤ 6
  lk : w.links.length ≤ 10
  ends : ∀ l ∈ w.links, l.endA ≠ l.endB
  cap : ∀ l ∈ w.links, l.capacity ≤ 99
  fl : w.flows.length ≤ 5
  dem : ∀ f ∈ w.flows, 1 ≤ f.demand ∧ f.demand ≤ 99
  fs : ∀ f ∈ w.flows, FOk w f
  asg : w.assignment.length = w.flows.length
  fit : ∀ i, i < w.flows.length → w.assignment.getD i 0 ≤ (w.flow i).pathLinks.length
  feas : w.isFeasible w.assignment = true
theorem flow_mem {w : Network} {i : Nat} (h : i < w.flows.length) : w.flow i ∈ w.flows := by
  unfold Network.flow
  rw [List.getD_eq_getElem?_getD, List.getElem?_eq_getElem h]
  exact List.getElem_mem h
theorem used_mem {w : Network} {f v : Nat} (h : f < w.flows.length) (hv : v ≤ (w.flow f).pathLinks.length) : w.usedLinks f v = [] ∨ w.usedLinks f v ∈ (w.flow f).pathLinks := by
  unfold Network.usedLinks
  by_cases e : v = 0
  · exact .inl (by rw [if_pos e])
  · rw [if_neg e]
    refine .inr ?_
    have hl : v - 1 < (w.flow f).pathLinks.length := by omega
    rw [List.getD_eq_getElem?_getD, List.getElem?_eq_getElem hl]
    exact List.getElem_mem hl
theorem used_lt {w : Network} (o : SpOk w) {f v : Nat} (h : f < w.flows.length) (hv : v ≤ (w.flow f).pathLinks.length) : ∀ k ∈ w.usedLinks f v, k < w.links.length := by
  intro k hk
  rcases used_mem h hv with e | e
  · rw [e] at hk
    cases hk
  · exact ((o.fs _ (flow_mem h)).nd _ e).2.2 k hk
end FmS

set_option linter.all false
/-! The specification's graph of assignments: moves, layers, distances. Nothing of the program. -/
namespace FmS
open Su203
/-! ### moves -/
theorem mem_moves {w : Network} {s : List Nat} {m : Nat × Nat} : m ∈ w.moves s ↔ m.1 < w.flows.length ∧ w.canMove s m.1 m.2 = true := by
  unfold Network.moves Network.flowIndices
  rw [List.mem_flatMap]
  constructor
  · rintro ⟨f, hf, hm⟩
    rw [List.mem_map] at hm
    obtain ⟨p, hp, rfl⟩ := hm
    rw [List.mem_filter] at hp
    exact ⟨List.mem_range.mp hf, hp.2⟩
  · rintro ⟨h1, h2⟩
    refine ⟨m.1, List.mem_range.mpr h1, ?_⟩
    have h3 := h2
    unfold Network.canMove at h3
    simp only [Bool.and_eq_true, bne_iff_ne, ne_eq, decide_eq_true_eq] at h3
    obtain ⟨_, h4, h5, _⟩ := h3
    rw [List.mem_map]
    refine ⟨m.2 - 1, ?_, ?_⟩
    · rw [List.mem_filter]
      refine ⟨List.mem_range.mpr (by omega), ?_⟩
      rw [show m.2 - 1 + 1 = m.2 by omega]
      exact h2
    · rw [show m.2 - 1 + 1 = m.2 by omega]
/-- what a candidate is -/
structure Cand (w : Network) (s : List Nat) : Prop where
  len : s.length = w.flows.length
  zero : ∀ i, i < w.flows.length → (s.getD i 0 = 0 ↔ w.assignment.getD i 0 = 0)
  fit : ∀ i, i < w.flows.length → s.getD i 0 ≤ (w.flow i).pathLinks.length
  feas : w.isFeasible s = true
theorem cand_asg {w : Network} (o : SpOk w) : Cand w w.assignment := ⟨o.asg, fun _ _ => Iff.rfl, o.fit, o.feas⟩
def Step (w : Network) (s t : List Nat) : Prop := ∃ m ∈ w.moves s, t = applyMove s m
theorem can_parts {w : Network} {s : List Nat} {f p : Nat} : w.canMove s f p = true ↔ s.getD f 0 ≠ 0 ∧ p ≠ 0 ∧ p ≤ (w.flow f).pathLinks.length ∧ s.getD f 0 ≠ p ∧ ∀ k ∈ w.usedLinks f p, (w.usedLinks f (s.getD f 0)).contains k = true ∨ w.load s k + (w.flow f).demand ≤ (w.link k).capacity := by
  unfold Network.canMove
  simp only [Bool.and_eq_true, bne_iff_ne, ne_eq, decide_eq_true_eq, List.all_eq_true, Bool.or_eq_true]
theorem cand_move {w : Network} {s : List Nat} (c : Cand w s) {m : Nat × Nat} (hm : m ∈ w.moves s) : Cand w (applyMove s m) := by
  obtain ⟨h1, h2⟩ := mem_moves.mp hm
  obtain ⟨p1, p2, p3, p4, p5⟩ := can_parts.mp h2
  have hs : m.1 < s.length := by rw [c.len]; exact h1
  refine ⟨by unfold applyMove; rw [List.length_set]; exact c.len, fun i hi => ?_, fun i hi => ?_, move_feasible h1 hs c.feas p5⟩
  · unfold applyMove
    by_cases e : i = m.1
    · subst e
      rw [getD_set_same hs]
      have := c.zero m.1 h1
      omega
    · rw [getD_set_ne e]
      exact c.zero i hi
  · unfold applyMove
    by_cases e : i = m.1
    · subst e
      rw [getD_set_same hs]
      exact p3
    · rw [getD_set_ne e]
      exact c.fit i hi
theorem cand_step {w : Network} {s t : List Nat} (c : Cand w s) (h : Step w s t) : Cand w t := by
  obtain ⟨m, hm, rfl⟩ := h
  exact cand_move c hm
/-- the move back is allowed directly behind it -/
theorem step_back {w : Network} (o : SpOk w) {s t : List Nat} (c : Cand w s) (h : Step w s t) : Step w t s := by
  obtain ⟨m, hm, rfl⟩ := h
  obtain ⟨h1, h2⟩ := mem_moves.mp hm
  obtain ⟨p1, p2, p3, p4, p5⟩ := can_parts.mp h2
  have hs : m.1 < s.length := by rw [c.len]; exact h1
  refine ⟨(m.1, s.getD m.1 0), mem_moves.mpr ⟨h1, can_parts.mpr ?_⟩, ?_⟩
  · have e1 : (applyMove s m).getD m.1 0 = m.2 := getD_set_same hs
    refine ⟨by rw [e1]; exact p2, p1, c.fit m.1 h1, by rw [e1]; exact fun z => p4 z.symm, fun k hk => ?_⟩
    rw [e1]
    by_cases hc : (w.usedLinks m.1 m.2).contains k = true
    · exact .inl hc
    · refine .inr ?_
      have hkl : k < w.links.length := used_lt o h1 (c.fit m.1 h1) k hk
      have f1 := feasible_iff.mp c.feas k hkl
      have e2 : w.load (applyMove s m) k = rest w s m.1 k + _ := load_set h1 hs k
      rw [if_neg hc, Nat.add_zero] at e2
      rw [e2]
      rw [load_split h1] at f1
      unfold part at f1
      rw [if_pos (by simpa using hk)] at f1
      exact f1
  · unfold applyMove
    show s = (s.set m.1 m.2).set m.1 (s.getD m.1 0)
    rw [List.set_set]
    refine List.ext_getElem? fun i => ?_
    by_cases e : m.1 = i
    · subst e
      rw [List.getElem?_set_self hs, List.getD_eq_getElem?_getD, List.getElem?_eq_getElem hs]
      rfl
    · rw [List.getElem?_set_ne e]
/-! ### the candidates, listed -/
def opts (w : Network) (s : List Nat) (f : Nat) : List Nat := if s.getD f 0 = 0 then [0] else (List.range (w.flow f).pathLinks.length).map fun p => p + 1
theorem mem_opts {w : Network} {s : List Nat} {f v : Nat} : v ∈ opts w s f ↔ ((v = 0 ↔ s.getD f 0 = 0) ∧ (s.getD f 0 ≠ 0 → v ≤ (w.flow f).pathLinks.length)) := by
  unfold opts
  by_cases h : s.getD f 0 = 0
  · rw [if_pos h, List.mem_singleton]
    constructor
    · rintro rfl
      exact ⟨⟨fun _ => h, fun _ => rfl⟩, fun z => absurd h z⟩
    · rintro ⟨h1, _⟩
      exact h1.mpr h
  · rw [if_neg h, List.mem_map]
    constructor
    · rintro ⟨p, hp, rfl⟩
      have := List.mem_range.mp hp
      exact ⟨⟨fun z => absurd z (Nat.succ_ne_zero p), fun z => absurd z h⟩, fun _ => by omega⟩
    · rintro ⟨h1, h2⟩
      have h3 := h2 h
      have h4 : v ≠ 0 := fun z => h (h1.mp z)
      exact ⟨v - 1, List.mem_range.mpr (by omega), by omega⟩
theorem nodup_opts (w : Network) (s : List Nat) (f : Nat) : (opts w s f).Nodup := by
  unfold opts
  split
  · simp
  · rw [List.nodup_iff_pairwise_ne, List.pairwise_map]
    refine (List.nodup_iff_pairwise_ne.mp List.nodup_range).imp ?_
    intro a b q z
    exact q (by omega)
theorem enum_cons (w : Network) (f : Nat) (l s : List Nat) : enumerateAssignments w (f :: l) s = (opts w s f).flatMap fun p => (enumerateAssignments w l s).map fun r => p :: r := rfl
theorem mem_enum {w : Network} {s : List Nat} : ∀ {l r : List Nat}, r ∈ enumerateAssignments w l s ↔ r.length = l.length ∧ ∀ (k f : Nat), l[k]? = some f → r.getD k 0 ∈ opts w s f
  | [], r => by
    show r ∈ [[]] ↔ _
    rw [List.mem_singleton]
    constructor
    · rintro rfl
      exact ⟨rfl, fun k f h => by simp at h⟩
    · rintro ⟨h, _⟩
      exact List.length_eq_zero_iff.mp h
  | f :: l, r => by
    rw [enum_cons, List.mem_flatMap]
    constructor
    · rintro ⟨p, hp, hr⟩
      rw [List.mem_map] at hr
      obtain ⟨r', hr', rfl⟩ := hr
      obtain ⟨h1, h2⟩ := mem_enum.mp hr'
      refine ⟨by rw [List.length_cons, List.length_cons, h1], fun k g hk => ?_⟩
      cases k with
      | zero =>
        have e : f = g := Option.some.inj hk
        subst e
        exact hp
      | succ k => exact h2 k g hk
    · rintro ⟨h1, h2⟩
      cases r with
      | nil => cases h1
      | cons p r' =>
        refine ⟨p, h2 0 f rfl, List.mem_map.mpr ⟨r', mem_enum.mpr ⟨Nat.succ.inj h1, fun k g hk => h2 (k + 1) g hk⟩, rfl⟩⟩
theorem nodup_enum {w : Network} {s : List Nat} : ∀ (l : List Nat), (enumerateAssignments w l s).Nodup
  | [] => by
    show ([[]] : List (List Nat)).Nodup
    simp
  | f :: l => by
    rw [enum_cons]
    have ih := nodup_enum (w := w) (s := s) l
    have no := nodup_opts w s f
    generalize opts w s f = os at no
    induction os with
    | nil => exact List.nodup_nil
    | cons a os ih2 =>
      rw [List.flatMap_cons, List.nodup_append]
      rw [List.nodup_cons] at no
      refine ⟨?_, ih2 no.2, fun x hx y hy e => ?_⟩
      · rw [List.nodup_iff_pairwise_ne, List.pairwise_map]
        refine (List.nodup_iff_pairwise_ne.mp ih).imp ?_
        intro u v q z
        exact q (List.cons.inj z).2
      · subst e
        rw [List.mem_map] at hx
        obtain ⟨u, _, rfl⟩ := hx
        rw [List.mem_flatMap] at hy
        obtain ⟨b, hb, hy⟩ := hy
        rw [List.mem_map] at hy
        obtain ⟨v, _, e⟩ := hy
        have := (List.cons.inj e).1
        subst this
        exact no.1 hb
theorem nodup_feasible (w : Network) : w.feasibleAssignments.Nodup := by
  unfold Network.feasibleAssignments
  exact (nodup_enum _).filter _
theorem mem_feasible {w : Network} (o : SpOk w) {s : List Nat} : s ∈ w.feasibleAssignments ↔ Cand w s := by
  unfold Network.feasibleAssignments Network.flowIndices
  rw [List.mem_filter, mem_enum]
  constructor
  · rintro ⟨⟨h1, h2⟩, h3⟩
    rw [List.length_range] at h1
    have h4 : ∀ i, i < w.flows.length → s.getD i 0 ∈ opts w w.assignment i := fun i hi => h2 i i (List.getElem?_range hi)
    refine ⟨h1, fun i hi => (mem_opts.mp (h4 i hi)).1, fun i hi => ?_, h3⟩
    by_cases e : w.assignment.getD i 0 = 0
    · have := ((mem_opts.mp (h4 i hi)).1).mpr e
      omega
    · exact (mem_opts.mp (h4 i hi)).2 e
  · rintro ⟨h1, h2, h3, h4⟩
    refine ⟨⟨by rw [List.length_range]; exact h1, fun k f hk => ?_⟩, h4⟩
    rw [List.getElem?_eq_some_iff] at hk
    obtain ⟨hk, e⟩ := hk
    rw [List.length_range] at hk
    rw [List.getElem_range] at e
    subst e
    exact mem_opts.mpr ⟨h2 k hk, fun _ => h3 k hk⟩
/-! ### layers -/
/-- within k moves of the targets -/
def Within (w : Network) (T : List (List Nat)) : Nat → List Nat → Prop
  | 0, t => t ∈ T
  | k + 1, t => Within w T k t ∨ ∃ s, Within w T k s ∧ Step w s t
theorem within_mono {w : Network} {T : List (List Nat)} {t : List Nat} {j k : Nat} (h : Within w T j t) (hjk : j ≤ k) : Within w T k t := by
  induction hjk with
  | refl => exact h
  | step _ ih => exact .inl ih
/-- at distance k -/
def Dist (w : Network) (T : List (List Nat)) (k : Nat) (t : List Nat) : Prop := Within w T k t ∧ ∀ j, j < k → ¬ Within w T j t
theorem dist_zero {w : Network} {T : List (List Nat)} {t : List Nat} : Dist w T 0 t ↔ t ∈ T := ⟨fun h => h.1, fun h => ⟨h, fun j hj => absurd hj (Nat.not_lt_zero j)⟩⟩
theorem dist_succ {w : Network} {T : List (List Nat)} {t : List Nat} {k : Nat} : Dist w T (k + 1) t ↔ (∃ s, Dist w T k s ∧ Step w s t) ∧ ¬ Within w T k t := by
  constructor
  · rintro ⟨h1, h2⟩
    have hn := h2 k (Nat.lt_succ_self k)
    refine ⟨?_, hn⟩
    rcases h1 with h1 | ⟨s, hs, st⟩
    · exact absurd h1 hn
    · refine ⟨s, ⟨hs, fun j hj hw => ?_⟩, st⟩
      exact hn (within_mono (k := k) (j := j + 1) (.inr ⟨s, hw, st⟩) hj)
  · rintro ⟨⟨s, hs, st⟩, hn⟩
    exact ⟨.inr ⟨s, hs.1, st⟩, fun j hj hw => hn (within_mono hw (Nat.lt_succ_iff.mp hj))⟩
theorem dist_unique {w : Network} {T : List (List Nat)} {t : List Nat} {j k : Nat} (h1 : Dist w T j t) (h2 : Dist w T k t) : j = k := by
  rcases Nat.lt_trichotomy j k with h | h | h
  · exact absurd h1.1 (h2.2 j h)
  · exact h
  · exact absurd h2.1 (h1.2 k h)
theorem within_dist {w : Network} {T : List (List Nat)} {t : List Nat} : ∀ {k : Nat}, Within w T k t → ∃ j, j ≤ k ∧ Dist w T j t
  | 0, h => ⟨0, Nat.le_refl _, dist_zero.mpr h⟩
  | k + 1, h => by
    by_cases hk : Within w T k t
    · obtain ⟨j, hj, d⟩ := within_dist hk
      exact ⟨j, Nat.le_succ_of_le hj, d⟩
    · refine ⟨k + 1, Nat.le_refl _, h, fun j hj hw => hk (within_mono hw (Nat.lt_succ_iff.mp hj))⟩
/-- the k-th layer behind a layer, what is seen -/
def nextLayer (w : Network) (seen layer : List (List Nat)) : List (List Nat) := (layer.flatMap fun s => (w.moves s).map fun m => applyMove s m).eraseDups.filter fun s => !(seen.contains s)
theorem mem_next {w : Network} {seen layer : List (List Nat)} {t : List Nat} : t ∈ nextLayer w seen layer ↔ (∃ s ∈ layer, Step w s t) ∧ t ∉ seen := by
  unfold nextLayer
  rw [List.mem_filter, List.mem_eraseDups, List.mem_flatMap]
  refine and_congr ⟨?_, ?_⟩ (by simp)
  · rintro ⟨s, hs, ht⟩
    rw [List.mem_map] at ht
    obtain ⟨m, hm, rfl⟩ := ht
    exact ⟨s, hs, m, hm, rfl⟩
  · rintro ⟨s, hs, m, hm, rfl⟩
    exact ⟨s, hs, List.mem_map.mpr ⟨m, hm, rfl⟩⟩
theorem nodup_dups : ∀ (n : Nat) (l : List (List Nat)), l.length ≤ n → l.eraseDups.Nodup
  | _, [], _ => by simp
  | 0, a :: l, h => by cases h
  | n + 1, a :: l, h => by
    rw [List.eraseDups_cons, List.nodup_cons]
    refine ⟨fun z => ?_, nodup_dups n _ (Nat.le_trans (List.length_filter_le _ _) (Nat.le_of_succ_le_succ h))⟩
    rw [List.mem_eraseDups, List.mem_filter] at z
    simp at z
theorem nodup_next {w : Network} {seen layer : List (List Nat)} : (nextLayer w seen layer).Nodup := (nodup_dups _ _ (Nat.le_refl _)).filter _
theorem layers_succ (w : Network) (n : Nat) (seen layer : List (List Nat)) : w.layersFrom (n + 1) seen layer = if layer.isEmpty = true then [] else layer :: w.layersFrom n (seen ++ nextLayer w seen layer) (nextLayer w seen layer) := rfl
/-- the walk from layer k on: layers are the distances, all of them -/
theorem layers_get {w : Network} {T : List (List Nat)} : ∀ (n k : Nat) (seen layer : List (List Nat)), (∀ t, t ∈ layer ↔ Dist w T k t) → (∀ t, t ∈ seen ↔ Within w T k t) →
    ∀ (i : Nat) (L : List (List Nat)), (w.layersFrom n seen layer)[i]? = some L → ∀ t, t ∈ L ↔ Dist w T (k + i) t
  | 0, _, _, _, _, _, i, L, h => by
    have h' : ([] : List (List (List Nat)))[i]? = some L := h
    simp at h'
  | n + 1, k, seen, layer, hl, hs, i, L, h => by
    rw [layers_succ] at h
    by_cases e : layer.isEmpty = true
    · rw [if_pos e] at h
      simp at h
    · rw [if_neg e] at h
      cases i with
      | zero =>
        have e1 : layer = L := Option.some.inj h
        subst e1
        exact hl
      | succ i =>
        have hn : ∀ t, t ∈ nextLayer w seen layer ↔ Dist w T (k + 1) t := fun t => by
          rw [mem_next, dist_succ, hs]
          exact and_congr ⟨fun ⟨s, h1, h2⟩ => ⟨s, (hl s).mp h1, h2⟩, fun ⟨s, h1, h2⟩ => ⟨s, (hl s).mpr h1, h2⟩⟩ Iff.rfl
        have hs' : ∀ t, t ∈ seen ++ nextLayer w seen layer ↔ Within w T (k + 1) t := fun t => by
          rw [List.mem_append, hs, hn]
          constructor
          · rintro (h1 | h1)
            · exact .inl h1
            · exact h1.1
          · intro h1
            by_cases h2 : Within w T k t
            · exact .inl h2
            · exact .inr ⟨h1, fun j hj hw => h2 (within_mono hw (Nat.lt_succ_iff.mp hj))⟩
        have r := layers_get n (k + 1) _ _ hn hs' i L h
        rw [show k + (i + 1) = k + 1 + i by omega]
        exact r
/-- .. and no distance is left out, as long as the limit holds -/
theorem layers_all {w : Network} {T C : List (List Nat)} (hC : ∀ k t, Dist w T k t → t ∈ C) : ∀ (n k : Nat) (seen layer : List (List Nat)), (∀ t, t ∈ layer ↔ Dist w T k t) → (∀ t, t ∈ seen ↔ Within w T k t) → seen.Nodup → layer.Nodup →
    C.length < n + seen.length → ∀ j t, k ≤ j → Dist w T j t → j - k < (w.layersFrom n seen layer).length
  | 0, k, seen, layer, hl, hs, nd, nl, hlen, j, t, hj, hd => by
    exfalso
    have hsub : seen ⊆ C := fun x hx => by
      obtain ⟨i, _, d⟩ := within_dist ((hs x).mp hx)
      exact hC i x d
    have := List.Nodup.length_le_of_subset nd hsub
    omega
  | n + 1, k, seen, layer, hl, hs, nd, nl, hlen, j, t, hj, hd => by
    rw [layers_succ]
    have hback : ∀ j t, Dist w T j t → ∀ i, i ≤ j → ∃ s, Dist w T i s := by
      intro j
      induction j with
      | zero =>
        intro t d i hi
        have : i = 0 := by omega
        subst this
        exact ⟨t, d⟩
      | succ j ih =>
        intro t d i hi
        by_cases e : i = j + 1
        · subst e
          exact ⟨t, d⟩
        · obtain ⟨⟨s, hs, _⟩, _⟩ := dist_succ.mp d
          exact ih s hs i (by omega)
    have hne : ¬ layer.isEmpty = true := by
      obtain ⟨s, ds⟩ := hback j t hd k hj
      have := (hl s).mpr ds
      intro z
      rw [List.isEmpty_iff] at z
      rw [z] at this
      cases this
    rw [if_neg hne, List.length_cons]
    by_cases e : j = k
    · omega
    · have hn : ∀ t, t ∈ nextLayer w seen layer ↔ Dist w T (k + 1) t := fun t => by
        rw [mem_next, dist_succ, hs]
        exact and_congr ⟨fun ⟨s, h1, h2⟩ => ⟨s, (hl s).mp h1, h2⟩, fun ⟨s, h1, h2⟩ => ⟨s, (hl s).mpr h1, h2⟩⟩ Iff.rfl
      have hs' : ∀ t, t ∈ seen ++ nextLayer w seen layer ↔ Within w T (k + 1) t := fun t => by
        rw [List.mem_append, hs, hn]
        constructor
        · rintro (h1 | h1)
          · exact .inl h1
          · exact h1.1
        · intro h1
          by_cases h2 : Within w T k t
          · exact .inl h2
          · exact .inr ⟨h1, fun j hj hw => h2 (within_mono hw (Nat.lt_succ_iff.mp hj))⟩
      have nd' : (seen ++ nextLayer w seen layer).Nodup := by
        rw [List.nodup_append]
        refine ⟨nd, nodup_next, fun a ha b hb z => ?_⟩
        subst z
        exact (mem_next.mp hb).2 ha
      have hpos : 0 < (nextLayer w seen layer).length := by
        obtain ⟨s, ds⟩ := hback j t hd (k + 1) (by omega)
        exact List.length_pos_of_mem ((hn s).mpr ds)
      have r := layers_all hC n (k + 1) _ _ hn hs' nd' nodup_next (by rw [List.length_append]; omega) j t (by omega) hd
      omega
theorem within_cand {w : Network} {T : List (List Nat)} (hT : ∀ t ∈ T, Cand w t) : ∀ {k : Nat} {t : List Nat}, Within w T k t → Cand w t
  | 0, t, h => hT t h
  | k + 1, t, h => by
    rcases h with h | ⟨s, h, st⟩
    · exact within_cand hT h
    · exact cand_step (within_cand hT h) st
/-- the layers of the specification: layer i holds what is at distance i, and no distance is left out -/
theorem spec_layers {w : Network} (o : SpOk w) {T : List (List Nat)} (hT : ∀ t ∈ T, Cand w t) (nd : T.Nodup) :
    (∀ (i : Nat) L, (w.layers T)[i]? = some L → ∀ t, t ∈ L ↔ Dist w T i t) ∧ ∀ j t, Dist w T j t → j < (w.layers T).length := by
  unfold Network.layers
  have hl : ∀ t, t ∈ T ↔ Dist w T 0 t := fun t => dist_zero.symm
  have hs : ∀ t, t ∈ T ↔ Within w T 0 t := fun t => Iff.rfl
  refine ⟨fun i L h t => ?_, fun j t h => ?_⟩
  · have r := layers_get _ 0 T T hl hs i L h t
    rw [Nat.zero_add] at r
    exact r
  · have r := layers_all (C := w.feasibleAssignments) (fun k t d => (mem_feasible o).mpr (within_cand hT d.1)) (w.feasibleAssignments.length + 1) 0 T T hl hs nd nd (by omega) j t (Nat.zero_le _) h
    exact r
theorem spec_distance {w : Network} (o : SpOk w) {T : List (List Nat)} (hT : ∀ t ∈ T, Cand w t) (nd : T.Nodup) {t : List Nat} {k : Nat} : distance (w.layers T) t = some k ↔ Dist w T k t := by
  obtain ⟨h1, h2⟩ := spec_layers o hT nd
  unfold distance
  rw [List.findIdx?_eq_some_iff_getElem]
  constructor
  · rintro ⟨hk, hc, _⟩
    exact (h1 k _ (List.getElem?_eq_getElem hk) t).mp (by simpa using hc)
  · intro d
    have hk := h2 k t d
    refine ⟨hk, ?_, fun j hj => ?_⟩
    · have := (h1 k _ (List.getElem?_eq_getElem hk) t).mpr d
      simpa using this
    · intro z
      have := (h1 j _ (List.getElem?_eq_getElem (Nat.lt_trans hj hk)) t).mp (by simpa using z)
      exact Nat.ne_of_lt hj (dist_unique this d)
theorem spec_distance_none {w : Network} (o : SpOk w) {T : List (List Nat)} (hT : ∀ t ∈ T, Cand w t) (nd : T.Nodup) {t : List Nat} : distance (w.layers T) t = none ↔ ∀ k, ¬ Within w T k t := by
  constructor
  · intro h k hk
    obtain ⟨j, _, d⟩ := within_dist hk
    rw [(spec_distance o hT nd).mpr d] at h
    cases h
  · intro h
    cases e : distance (w.layers T) t with
    | none => rfl
    | some k => exact absurd ((spec_distance o hT nd).mp e).1 (h k)
theorem mem_layers_flat {w : Network} (o : SpOk w) {T : List (List Nat)} (hT : ∀ t ∈ T, Cand w t) (nd : T.Nodup) {t : List Nat} : t ∈ (w.layers T).flatten ↔ ∃ k, Within w T k t := by
  obtain ⟨h1, h2⟩ := spec_layers o hT nd
  rw [List.mem_flatten]
  constructor
  · rintro ⟨L, hL, ht⟩
    obtain ⟨i, hi⟩ := List.mem_iff_getElem?.mp hL
    exact ⟨i, ((h1 i L hi t).mp ht).1⟩
  · rintro ⟨k, hk⟩
    obtain ⟨j, _, d⟩ := within_dist hk
    have hj := h2 j t d
    exact ⟨_, List.getElem_mem hj, (h1 j _ (List.getElem?_eq_getElem hj) t).mpr d⟩
end FmS

set_option linter.all false
/-! The specification's plans: the best one, and that there is none. Nothing of the program. -/
namespace FmS
open Su203
abbrev Mv := Nat × Nat
def run (s : List Nat) (p : List Mv) : List Nat := p.foldl applyMove s
def Valid (w : Network) : List Nat → List Mv → Prop
  | _, [] => True
  | s, m :: p => m ∈ w.moves s ∧ Valid w (applyMove s m) p
theorem valid_cand {w : Network} : ∀ {p : List Mv} {s : List Nat}, Cand w s → Valid w s p → Cand w (run s p)
  | [], _, c, _ => c
  | m :: p, s, c, v => valid_cand (p := p) (cand_move c v.1) v.2
theorem valid_append {w : Network} : ∀ {p q : List Mv} {s : List Nat}, Valid w s (p ++ q) ↔ Valid w s p ∧ Valid w (run s p) q
  | [], q, s => ⟨fun h => ⟨trivial, h⟩, fun h => h.2⟩
  | m :: p, q, s => by
    show (m ∈ w.moves s ∧ Valid w (applyMove s m) (p ++ q)) ↔ (m ∈ w.moves s ∧ Valid w (applyMove s m) p) ∧ Valid w (run (applyMove s m) p) q
    rw [valid_append (p := p), and_assoc]
theorem run_append (s : List Nat) (p q : List Mv) : run s (p ++ q) = run (run s p) q := List.foldl_append
/-! ### order -/
def lt2 (a b : Mv) : Prop := a.1 < b.1 ∨ (a.1 = b.1 ∧ a.2 < b.2)
theorem lt2_irrefl {a : Mv} : ¬ lt2 a a := by
  unfold lt2
  omega
theorem lt2_asymm {a b : Mv} (h : lt2 a b) : ¬ lt2 b a := by
  unfold lt2 at *
  omega
theorem lt2_trans {a b c : Mv} (h : lt2 a b) (h2 : lt2 b c) : lt2 a c := by
  unfold lt2 at *
  omega
theorem moves_sorted (w : Network) (s : List Nat) : (w.moves s).Pairwise lt2 := by
  unfold Network.moves Network.flowIndices
  rw [List.pairwise_flatMap]
  refine ⟨fun f _ => ?_, ?_⟩
  · rw [List.pairwise_map]
    refine List.Pairwise.filter _ ?_
    refine List.pairwise_lt_range.imp ?_
    intro a b h
    exact .inr ⟨rfl, Nat.succ_lt_succ h⟩
  · refine List.pairwise_lt_range.imp ?_
    intro a b h x hx y hy
    rw [List.mem_map] at hx hy
    obtain ⟨_, _, rfl⟩ := hx
    obtain ⟨_, _, rfl⟩ := hy
    exact .inl h
def lexLe : List Mv → List Mv → Prop
  | [], _ => True
  | _ :: _, [] => False
  | a :: p, b :: q => lt2 a b ∨ (a = b ∧ lexLe p q)
theorem lexLe_refl : ∀ (p : List Mv), lexLe p p
  | [] => trivial
  | _ :: p => .inr ⟨rfl, lexLe_refl p⟩
theorem lexLe_antisymm : ∀ {p q : List Mv}, p.length = q.length → lexLe p q → lexLe q p → p = q
  | [], [], _, _, _ => rfl
  | [], _ :: _, h, _, _ => by cases h
  | _ :: _, [], h, _, _ => by cases h
  | a :: p, b :: q, h, h1, h2 => by
    rcases h1 with h1 | ⟨e1, h1⟩
    · rcases h2 with h2 | ⟨e2, _⟩
      · exact absurd h2 (lt2_asymm h1)
      · subst e2
        exact absurd h1 lt2_irrefl
    · subst e1
      rcases h2 with h2 | ⟨_, h2⟩
      · exact absurd h2 lt2_irrefl
      · rw [lexLe_antisymm (Nat.succ.inj h) h1 h2]
/-! ### the best plan -/
structure Best (w : Network) (T : List (List Nat)) (s : List Nat) (p : List Mv) : Prop where
  valid : Valid w s p
  ends : run s p ∈ T
  short : ∀ q, Valid w s q → run s q ∈ T → p.length ≤ q.length
  least : ∀ q, Valid w s q → run s q ∈ T → q.length = p.length → lexLe p q
theorem best_unique {w : Network} {T : List (List Nat)} {s : List Nat} {p q : List Mv} (a : Best w T s p) (b : Best w T s q) : p = q := by
  have e : p.length = q.length := Nat.le_antisymm (a.short q b.valid b.ends) (b.short p a.valid a.ends)
  exact lexLe_antisymm e (a.least q b.valid b.ends e.symm) (b.least p a.valid a.ends e)
/-- within k moves, told from the other side -/
theorem within_plan {w : Network} (o : SpOk w) {T : List (List Nat)} (hT : ∀ t ∈ T, Cand w t) : ∀ {k : Nat} {s : List Nat}, Within w T k s ↔ Cand w s ∧ ∃ p, Valid w s p ∧ run s p ∈ T ∧ p.length ≤ k
  | 0, s => by
    constructor
    · intro h
      exact ⟨hT s h, [], trivial, h, Nat.le_refl _⟩
    · rintro ⟨_, p, _, h2, h3⟩
      have : p = [] := List.length_eq_zero_iff.mp (Nat.le_zero.mp h3)
      subst this
      exact h2
  | k + 1, s => by
    constructor
    · rintro (h | ⟨t, h, st⟩)
      · obtain ⟨c, p, h1, h2, h3⟩ := (within_plan o hT).mp h
        exact ⟨c, p, h1, h2, Nat.le_succ_of_le h3⟩
      · obtain ⟨c, p, h1, h2, h3⟩ := (within_plan o hT).mp h
        obtain ⟨m, hm, e⟩ := step_back o c st
        refine ⟨cand_step c st, m :: p, ⟨hm, by rw [← e]; exact h1⟩, ?_, Nat.succ_le_succ h3⟩
        show run (applyMove s m) p ∈ T
        rw [← e]
        exact h2
    · rintro ⟨c, p, h1, h2, h3⟩
      cases p with
      | nil => exact within_mono (j := 0) h2 (Nat.zero_le _)
      | cons m p =>
        have c2 := cand_move c h1.1
        refine .inr ⟨applyMove s m, (within_plan o hT).mpr ⟨c2, p, h1.2, h2, Nat.le_of_succ_le_succ h3⟩, ?_⟩
        exact step_back o c ⟨m, h1.1, rfl⟩
theorem dist_plan {w : Network} (o : SpOk w) {T : List (List Nat)} (hT : ∀ t ∈ T, Cand w t) {k : Nat} {s : List Nat} (c : Cand w s) : Dist w T k s ↔ (∃ p, Valid w s p ∧ run s p ∈ T ∧ p.length = k) ∧ ∀ q, Valid w s q → run s q ∈ T → k ≤ q.length := by
  constructor
  · rintro ⟨h1, h2⟩
    obtain ⟨_, p, a, b, l⟩ := (within_plan o hT).mp h1
    have hq : ∀ q, Valid w s q → run s q ∈ T → k ≤ q.length := fun q v e => by
      rcases Nat.lt_or_ge q.length k with z | z
      · exact absurd ((within_plan o hT).mpr ⟨c, q, v, e, Nat.le_refl _⟩) (h2 _ z)
      · exact z
    exact ⟨⟨p, a, b, Nat.le_antisymm l (hq p a b)⟩, hq⟩
  · rintro ⟨⟨p, a, b, l⟩, hq⟩
    refine ⟨(within_plan o hT).mpr ⟨c, p, a, b, Nat.le_of_eq l⟩, fun j hj hw => ?_⟩
    obtain ⟨_, q, v, e, le⟩ := (within_plan o hT).mp hw
    have := hq q v e
    omega
/-- the first of a list told by its order -/
theorem find_least {l : List Mv} (hl : l.Pairwise lt2) {q : Mv → Bool} {m : Mv} (h : l.find? q = some m) : m ∈ l ∧ q m = true ∧ ∀ x ∈ l, q x = true → m = x ∨ lt2 m x := by
  induction l with
  | nil => cases h
  | cons a l ih =>
    rw [List.pairwise_cons] at hl
    rw [List.find?_cons] at h
    cases e : q a with
    | true =>
      rw [e] at h
      have e2 : a = m := Option.some.inj h
      subst e2
      refine ⟨.head _, e, fun x hx hq => ?_⟩
      rcases List.mem_cons.mp hx with rfl | hx
      · exact .inl rfl
      · exact .inr (hl.1 x hx)
    | false =>
      rw [e] at h
      obtain ⟨h1, h2, h3⟩ := ih hl.2 h
      refine ⟨.tail _ h1, h2, fun x hx hq => ?_⟩
      rcases List.mem_cons.mp hx with rfl | hx
      · rw [e] at hq
        cases hq
      · exact h3 x hx hq
theorem planFrom_best {w : Network} (o : SpOk w) {T : List (List Nat)} (hT : ∀ t ∈ T, Cand w t) (nd : T.Nodup) : ∀ (k : Nat) (s : List Nat), Cand w s → Dist w T k s → Best w T s (w.planFrom (w.layers T) k s) ∧ (w.planFrom (w.layers T) k s).length = k
  | 0, s, c, d => by
    refine ⟨⟨trivial, dist_zero.mp d, fun q _ _ => Nat.zero_le _, fun q _ _ _ => trivial⟩, rfl⟩
  | k + 1, s, c, d => by
    obtain ⟨⟨p, a, b, l⟩, hq⟩ := (dist_plan o hT c).mp d
    have step : ∀ m q, m ∈ w.moves s → Valid w (applyMove s m) q → run (applyMove s m) q ∈ T → q.length = k → Dist w T k (applyMove s m) := fun m q hm hv he hl => by
      refine (dist_plan o hT (cand_move c hm)).mpr ⟨⟨q, hv, he, hl⟩, fun q' v' e' => ?_⟩
      have := hq (m :: q') ⟨hm, v'⟩ e'
      exact Nat.le_of_succ_le_succ this
    unfold Network.planFrom
    cases ef : (w.moves s).find? fun m => distance (w.layers T) (applyMove s m) == some k with
    | none =>
      exfalso
      cases p with
      | nil => cases l
      | cons m p =>
        have := List.find?_eq_none.mp ef m a.1
        rw [(spec_distance o hT nd).mpr (step m p a.1 a.2 b (Nat.succ.inj l))] at this
        simp at this
    | some m =>
      obtain ⟨h1, h2, h3⟩ := find_least (moves_sorted w s) ef
      have dm : Dist w T k (applyMove s m) := (spec_distance o hT nd).mp (by simpa using h2)
      obtain ⟨bb, bl⟩ := planFrom_best o hT nd k (applyMove s m) (cand_move c h1) dm
      show Best w T s (m :: w.planFrom (w.layers T) k (applyMove s m)) ∧ _
      refine ⟨⟨⟨h1, bb.valid⟩, bb.ends, fun q v e => ?_, fun q v e hl => ?_⟩, ?_⟩
      · rw [List.length_cons, bl]
        exact hq q v e
      · rw [List.length_cons, bl] at hl
        cases q with
        | nil => cases hl
        | cons x q =>
          have dx := step x q v.1 v.2 e (Nat.succ.inj hl)
          rcases h3 x v.1 (by simpa using (spec_distance o hT nd).mpr dx) with z | z
          · subst z
            exact .inr ⟨rfl, bb.least q v.2 e (by rw [bl]; exact Nat.succ.inj hl)⟩
          · exact .inl z
      · show _ + 1 = _
        rw [bl]
theorem plan_some {w : Network} (o : SpOk w) {T : List (List Nat)} (hT : ∀ t ∈ T, Cand w t) (nd : T.Nodup) {p : List Mv} : w.plan T = some p ↔ Best w T w.assignment p := by
  have c := cand_asg o
  have fwd : ∀ {p : List Mv}, w.plan T = some p → Best w T w.assignment p := fun {p} h => by
    unfold Network.plan at h
    rw [Option.map_eq_some_iff] at h
    obtain ⟨k, hk, rfl⟩ := h
    exact (planFrom_best o hT nd k _ c ((spec_distance o hT nd).mp hk)).1
  refine ⟨fwd, fun b => ?_⟩
  have hd : Dist w T p.length w.assignment := (dist_plan o hT c).mpr ⟨⟨p, b.valid, b.ends, rfl⟩, b.short⟩
  have e : w.plan T = some (w.planFrom (w.layers T) p.length w.assignment) := by
    unfold Network.plan
    rw [Option.map_eq_some_iff]
    exact ⟨p.length, (spec_distance o hT nd).mpr hd, rfl⟩
  rw [e, best_unique (fwd e) b]
theorem plan_none {w : Network} (o : SpOk w) {T : List (List Nat)} (hT : ∀ t ∈ T, Cand w t) (nd : T.Nodup) : w.plan T = none ↔ ∀ p, Valid w w.assignment p → run w.assignment p ∉ T := by
  have c := cand_asg o
  unfold Network.plan
  rw [Option.map_eq_none_iff, spec_distance_none o hT nd]
  constructor
  · intro h p v e
    exact h p.length ((within_plan o hT).mpr ⟨c, p, v, e, Nat.le_refl _⟩)
  · intro h k hk
    obtain ⟨_, p, v, e, _⟩ := (within_plan o hT).mp hk
    exact h p v e
/-! ### what is reached -/
def Reach (w : Network) (s t : List Nat) : Prop := ∃ p, Valid w s p ∧ run s p = t
theorem reach_refl (w : Network) (s : List Nat) : Reach w s s := ⟨[], trivial, rfl⟩
theorem reach_trans {w : Network} {s t u : List Nat} (a : Reach w s t) (b : Reach w t u) : Reach w s u := by
  obtain ⟨p, vp, rfl⟩ := a
  obtain ⟨q, vq, rfl⟩ := b
  exact ⟨p ++ q, valid_append.mpr ⟨vp, vq⟩, run_append _ _ _⟩
theorem reach_step {w : Network} {s t : List Nat} (h : Step w s t) : Reach w s t := by
  obtain ⟨m, hm, rfl⟩ := h
  exact ⟨[m], ⟨hm, trivial⟩, rfl⟩
theorem reach_back {w : Network} (o : SpOk w) : ∀ {p : List Mv} {s : List Nat}, Cand w s → Valid w s p → Reach w (run s p) s
  | [], s, _, _ => reach_refl w s
  | m :: p, s, c, v => reach_trans (t := applyMove s m) (reach_back (p := p) (s := applyMove s m) o (cand_move c v.1) v.2) (reach_step (step_back o c ⟨m, v.1, rfl⟩))
theorem reach_symm {w : Network} (o : SpOk w) {s t : List Nat} (c : Cand w s) (h : Reach w s t) : Reach w t s := by
  obtain ⟨p, v, rfl⟩ := h
  exact reach_back o c v
theorem reach_cand {w : Network} {s t : List Nat} (c : Cand w s) (h : Reach w s t) : Cand w t := by
  obtain ⟨p, v, rfl⟩ := h
  exact valid_cand c v
theorem within_reach {w : Network} (o : SpOk w) {s t : List Nat} (c : Cand w s) : (∃ k, Within w [s] k t) ↔ Reach w s t := by
  have hT : ∀ x ∈ [s], Cand w x := fun x hx => by
    rw [List.mem_singleton] at hx
    subst hx
    exact c
  constructor
  · rintro ⟨k, h⟩
    obtain ⟨ct, p, v, e, _⟩ := (within_plan o hT).mp h
    rw [List.mem_singleton] at e
    have := reach_back o ct v
    rw [e] at this
    exact this
  · intro h
    have ct := reach_cand c h
    obtain ⟨p, v, e⟩ := reach_symm o c h
    exact ⟨p.length, (within_plan o hT).mpr ⟨ct, p, v, by rw [e]; exact .head _, Nat.le_refl _⟩⟩
theorem mem_component {w : Network} (o : SpOk w) {s t : List Nat} (c : Cand w s) : t ∈ (w.layers [s]).flatten ↔ Reach w s t := by
  rw [← within_reach o c]
  refine mem_layers_flat o (fun x hx => ?_) (by simp)
  rw [List.mem_singleton] at hx
  subst hx
  exact c
theorem nodup_layersFrom {w : Network} : ∀ (n : Nat) (seen layer : List (List Nat)), layer.Nodup → ∀ L ∈ w.layersFrom n seen layer, L.Nodup
  | 0, _, _, _, L, h => by cases h
  | n + 1, seen, layer, nd, L, h => by
    rw [layers_succ] at h
    by_cases e : layer.isEmpty = true
    · rw [if_pos e] at h
      cases h
    · rw [if_neg e] at h
      rcases List.mem_cons.mp h with rfl | h
      · exact nd
      · exact nodup_layersFrom n _ _ nodup_next L h
theorem nodup_layers_flat {w : Network} (o : SpOk w) {T : List (List Nat)} (hT : ∀ t ∈ T, Cand w t) (nd : T.Nodup) : (w.layers T).flatten.Nodup := by
  obtain ⟨h1, _⟩ := spec_layers o hT nd
  rw [List.nodup_iff_pairwise_ne, List.pairwise_flatten]
  refine ⟨fun L hL => List.nodup_iff_pairwise_ne.mp (nodup_layersFrom _ _ _ nd L hL), ?_⟩
  rw [List.pairwise_iff_getElem]
  intro i j hi hj hij x hx y hy e
  subst e
  have d1 := (h1 i _ (List.getElem?_eq_getElem hi) x).mp hx
  have d2 := (h1 j _ (List.getElem?_eq_getElem hj) x).mp hy
  exact Nat.ne_of_lt hij (dist_unique d1 d2)
theorem nodup_reachable {w : Network} (o : SpOk w) : w.reachable.Nodup := nodup_layers_flat o (fun x hx => by
  rw [List.mem_singleton] at hx
  subst hx
  exact cand_asg o) (by simp)
theorem mem_reachable {w : Network} (o : SpOk w) {t : List Nat} : t ∈ w.reachable ↔ Reach w w.assignment t := mem_component o (cand_asg o)
/-- two lists without repetitions and with the same members are equally long -/
theorem length_of_same {l r : List (List Nat)} (hl : l.Nodup) (hr : r.Nodup) (h : ∀ x, x ∈ l ↔ x ∈ r) : l.length = r.length :=
  Nat.le_antisymm (List.Nodup.length_le_of_subset hl fun x hx => (h x).mp hx) (List.Nodup.length_le_of_subset hr fun x hx => (h x).mpr hx)
/-! ### components: how many of a list are linked to none ahead of them -/
open Classical in
noncomputable def firsts (w : Network) : List (List Nat) → List (List Nat) → Nat
  | _, [] => 0
  | seen, s :: l => (if ∃ x ∈ seen, Reach w x s then 0 else 1) + firsts w (s :: seen) l
theorem firsts_congr {w : Network} : ∀ (l a b : List (List Nat)), (∀ t, (∃ x ∈ a, Reach w x t) ↔ (∃ x ∈ b, Reach w x t)) → firsts w a l = firsts w b l
  | [], _, _, _ => rfl
  | s :: l, a, b, h => by
    have e : firsts w (s :: a) l = firsts w (s :: b) l := firsts_congr l _ _ fun t => by
      simp only [List.mem_cons, exists_eq_or_imp]
      exact or_congr Iff.rfl (h t)
    unfold firsts
    rw [e]
    by_cases q : ∃ x ∈ b, Reach w x s
    · rw [if_pos q, if_pos ((h s).mpr q)]
    · rw [if_neg q, if_neg (fun z => q ((h s).mp z))]
theorem firsts_filter {w : Network} (o : SpOk w) (s : List Nat) : ∀ (l a : List (List Nat)) (q : List Nat → Bool), Cand w s → (∀ t ∈ l, Cand w t) → (∀ t, q t = true ↔ ¬ Reach w s t) → (∀ t ∈ l, q t = true → (∃ x ∈ a, Reach w x t) → (∃ x ∈ a, q x = true ∧ Reach w x t)) → s ∈ a →
    firsts w a l = firsts w (a.filter q) (l.filter q)
  | [], _, _, _, _, _, _, _ => rfl
  | t :: l, a, q, cs, cl, hq, ha, hs => by
    have ct := cl t (.head _)
    have ih := firsts_filter o s l (t :: a) q cs (fun u hu => cl u (.tail _ hu)) hq (fun u hu qu => by
      rintro ⟨x, hx, r⟩
      rcases List.mem_cons.mp hx with rfl | hx
      · refine ⟨x, .head _, ?_, r⟩
        rw [hq]
        intro z
        exact (hq u).mp qu (reach_trans z r)
      · obtain ⟨y, hy, qy, ry⟩ := ha u (.tail _ hu) qu ⟨x, hx, r⟩
        exact ⟨y, .tail _ hy, qy, ry⟩) (.tail _ hs)
    rw [List.filter_cons]
    by_cases e : q t = true
    · rw [if_pos e]
      unfold firsts
      have e2 : (t :: a).filter q = t :: a.filter q := by rw [List.filter_cons, if_pos e]
      rw [ih, e2]
      by_cases z : ∃ x ∈ a, Reach w x t
      · obtain ⟨y, hy, qy, ry⟩ := ha t (.head _) e z
        rw [if_pos z, if_pos ⟨y, List.mem_filter.mpr ⟨hy, qy⟩, ry⟩]
      · rw [if_neg z, if_neg (fun ⟨x, hx, r⟩ => z ⟨x, (List.mem_filter.mp hx).1, r⟩)]
    · rw [if_neg e]
      have hr : Reach w s t := Classical.not_not.mp fun z => e ((hq t).mpr z)
      unfold firsts
      rw [if_pos ⟨s, hs, hr⟩, Nat.zero_add, ih]
      have e2 : (t :: a).filter q = a.filter q := by rw [List.filter_cons, if_neg e]
      rw [e2]
      cases l.filter q <;> rfl
theorem component_firsts {w : Network} (o : SpOk w) : ∀ (n : Nat) (l : List (List Nat)), (∀ t ∈ l, Cand w t) → l.length ≤ n → w.componentCount n l = firsts w [] l
  | 0, [], _, _ => rfl
  | 0, _ :: _, _, h => by cases h
  | n + 1, [], _, _ => rfl
  | n + 1, s :: l, hc, h => by
    have cs := hc s (.head _)
    have hq : ∀ t, (!((w.layers [s]).flatten.contains t)) = true ↔ ¬ Reach w s t := fun t => by
      rw [← mem_component o cs]
      simp
    show 1 + w.componentCount n (l.filter fun x => !((w.layers [s]).flatten.contains x)) = _
    rw [component_firsts o n _ (fun t ht => hc t (.tail _ (List.mem_filter.mp ht).1)) (Nat.le_trans (List.length_filter_le _ _) (Nat.le_of_succ_le_succ h))]
    unfold firsts
    rw [if_neg (by simp)]
    refine congrArg (1 + ·) ?_
    have r := firsts_filter o s l [s] (fun x => !((w.layers [s]).flatten.contains x)) cs (fun t ht => hc t (.tail _ ht)) hq (fun t _ qt => by
      rintro ⟨x, hx, rx⟩
      rw [List.mem_singleton] at hx
      subst hx
      exact absurd rx ((hq t).mp qt)) (.head _)
    have e : [s].filter (fun x => !((w.layers [s]).flatten.contains x)) = [] := by
      rw [List.filter_cons, if_neg (fun z => (hq s).mp z (reach_refl w s))]
      rfl
    rw [e] at r
    cases h2 : l.filter (fun x => !((w.layers [s]).flatten.contains x)) with
    | nil =>
      rw [h2] at r
      exact r.symm
    | cons y ys =>
      rw [h2] at r
      exact r.symm
end FmS

set_option linter.all false
/-! What is always so of the specification's state stays so. Nothing of the program. -/
namespace FmS
open Su203
theorem SpOk.withAsg {w : Network} (o : SpOk w) {s : List Nat} (h1 : s.length = w.flows.length) (h2 : ∀ i, i < w.flows.length → s.getD i 0 ≤ (w.flow i).pathLinks.length) (h3 : w.isFeasible s = true) : SpOk { w with assignment := s } :=
  ⟨o.n, o.lk, o.ends, o.cap, o.fl, o.dem, fun f hf => ⟨(o.fs f hf).few, (o.fs f hf).same, (o.fs f hf).nd, (o.fs f hf).sh⟩, h1, h2, h3⟩
theorem SpOk.withCand {w : Network} (o : SpOk w) {s : List Nat} (c : Cand w s) : SpOk { w with assignment := s } := o.withAsg c.len c.fit c.feas
theorem ok_create {n : Nat} (h : ¬ (n < 2 ∨ 6 < n)) : SpOk (create n) := by
  refine ⟨⟨by show 2 ≤ n; omega, by show n ≤ 6; omega⟩, Nat.zero_le _, fun l hl => (List.not_mem_nil hl).elim, fun l hl => (List.not_mem_nil hl).elim, Nat.zero_le _, fun l hl => (List.not_mem_nil hl).elim, fun l hl => (List.not_mem_nil hl).elim, rfl, fun i hi => absurd hi (Nat.not_lt_zero i), ?_⟩
  rw [feasible_iff]
  intro j hj
  cases hj
theorem sum_zero : ∀ (l : List Nat), (l.map fun _ => 0).sum = 0
  | [] => rfl
  | _ :: l => by
    rw [List.map_cons, List.sum_cons, sum_zero l]
theorem link_app {w : Network} {l : Link} {i : Nat} (h : i < w.links.length) : ({ w with links := w.links ++ [l] } : Network).link i = w.link i := by
  unfold Network.link
  rw [List.getD_eq_getElem?_getD, List.getD_eq_getElem?_getD]
  show ((w.links ++ [l])[i]?).getD _ = _
  rw [List.getElem?_append_left h]
theorem ok_addLink {w : Network} (o : SpOk w) {l : Link} (h1 : l.endA ≠ l.endB) (h2 : l.capacity ≤ 99) (h3 : w.links.length < 10) : SpOk { w with links := w.links ++ [l] } := by
  have hlen : (w.links ++ [l]).length = w.links.length + 1 := by rw [List.length_append]; rfl
  refine ⟨o.n, by show (w.links ++ [l]).length ≤ 10; omega, fun x hx => ?_, fun x hx => ?_, o.fl, o.dem, fun f hf => ⟨(o.fs f hf).few, (o.fs f hf).same, fun p hp => ⟨((o.fs f hf).nd p hp).1, ((o.fs f hf).nd p hp).2.1, fun k hk => ?_⟩, (o.fs f hf).sh⟩, o.asg, o.fit, ?_⟩
  · rcases List.mem_append.mp hx with hx | hx
    · exact o.ends x hx
    · rw [List.mem_singleton] at hx
      subst hx
      exact h1
  · rcases List.mem_append.mp hx with hx | hx
    · exact o.cap x hx
    · rw [List.mem_singleton] at hx
      subst hx
      exact h2
  · have := ((o.fs f hf).nd p hp).2.2 k hk
    show k < (w.links ++ [l]).length
    omega
  · rw [feasible_iff]
    intro j hj
    show w.load w.assignment j ≤ _
    by_cases e : j < w.links.length
    · rw [link_app e]
      exact feasible_iff.mp o.feas j e
    · have h0 : w.load w.assignment j = 0 := by
        rw [load_eq]
        have : ((List.range w.flows.length).map (part w w.assignment j)) = (List.range w.flows.length).map fun _ => 0 := List.map_congr_left fun f hf => by
          have hf := List.mem_range.mp hf
          unfold part
          rw [if_neg]
          intro z
          have := used_lt o hf (o.fit f hf) j (by simpa using z)
          exact e this
        rw [this, sum_zero]
      rw [h0]
      exact Nat.zero_le _
theorem flow_app {w : Network} {f : Flow} {a : List Nat} {i : Nat} (h : i < w.flows.length) : ({ w with flows := w.flows ++ [f], assignment := a } : Network).flow i = w.flow i := by
  unfold Network.flow
  rw [List.getD_eq_getElem?_getD, List.getD_eq_getElem?_getD]
  show ((w.flows ++ [f])[i]?).getD _ = _
  rw [List.getElem?_append_left h]
theorem asg_app {s : List Nat} {i : Nat} (h : i < s.length) : (s ++ [0]).getD i 0 = s.getD i 0 := by
  rw [List.getD_eq_getElem?_getD, List.getD_eq_getElem?_getD, List.getElem?_append_left h]
theorem asg_app_last {s : List Nat} : (s ++ [0]).getD s.length 0 = 0 := by
  rw [List.getD_eq_getElem?_getD, List.getElem?_append_right (Nat.le_refl _), Nat.sub_self]
  rfl
theorem ok_addFlow {w : Network} (o : SpOk w) {s t d : Nat} (h1 : 1 ≤ d) (h2 : d ≤ 99) (h3 : w.flows.length < 5) : SpOk { w with flows := w.flows ++ [⟨s, t, d, [], []⟩], assignment := w.assignment ++ [0] } := by
  have hlen : (w.flows ++ [(⟨s, t, d, [], []⟩ : Flow)]).length = w.flows.length + 1 := by rw [List.length_append]; rfl
  refine ⟨o.n, o.lk, o.ends, o.cap, by show (w.flows ++ [_]).length ≤ 5; omega, fun f hf => ?_, fun f hf => ?_, ?_, fun i hi => ?_, ?_⟩
  · rcases List.mem_append.mp hf with hf | hf
    · exact o.dem f hf
    · rw [List.mem_singleton] at hf
      subst hf
      exact ⟨h1, h2⟩
  · rcases List.mem_append.mp hf with hf | hf
    · exact ⟨(o.fs f hf).few, (o.fs f hf).same, (o.fs f hf).nd, (o.fs f hf).sh⟩
    · rw [List.mem_singleton] at hf
      subst hf
      exact ⟨Nat.zero_le _, rfl, fun p hp => (List.not_mem_nil hp).elim, fun p hp => (List.not_mem_nil hp).elim⟩
  · show (w.assignment ++ [0]).length = (w.flows ++ [_]).length
    rw [List.length_append, List.length_append, o.asg]
    rfl
  · show (w.assignment ++ [0]).getD i 0 ≤ _
    have hi : i < w.flows.length + 1 := by rw [← hlen]; exact hi
    by_cases e : i < w.flows.length
    · rw [flow_app e, asg_app (by rw [o.asg]; exact e)]
      exact o.fit i e
    · have : i = w.assignment.length := by rw [o.asg]; omega
      rw [this, asg_app_last]
      exact Nat.zero_le _
  · rw [feasible_iff]
    intro j hj
    have hl : Network.load { w with flows := w.flows ++ [⟨s, t, d, [], []⟩], assignment := w.assignment ++ [0] } (w.assignment ++ [0]) j = w.load w.assignment j := by
      rw [load_eq, load_eq]
      show ((List.range (w.flows ++ [_]).length).map _).sum = _
      rw [hlen, List.range_succ, List.map_append, List.sum_append]
      have e1 : ((List.range w.flows.length).map (part { w with flows := w.flows ++ [⟨s, t, d, [], []⟩], assignment := w.assignment ++ [0] } (w.assignment ++ [0]) j)) = (List.range w.flows.length).map (part w w.assignment j) := List.map_congr_left fun f hf => by
        have hf := List.mem_range.mp hf
        unfold part Network.usedLinks
        rw [asg_app (by rw [o.asg]; exact hf), flow_app hf]
      rw [e1]
      show _ + (part _ _ j w.flows.length + 0) = _
      have e2 : part { w with flows := w.flows ++ [⟨s, t, d, [], []⟩], assignment := w.assignment ++ [0] } (w.assignment ++ [0]) j w.flows.length = 0 := by
        unfold part
        rw [← o.asg, asg_app_last]
        rfl
      rw [e2]
      rfl
    show Network.load { w with flows := w.flows ++ [⟨s, t, d, [], []⟩], assignment := w.assignment ++ [0] } (w.assignment ++ [0]) j ≤ (w.link j).capacity
    rw [hl]
    exact feasible_iff.mp o.feas j hj
/-! ### the links along a path -/
theorem between_lt {w : Network} {u v i : Nat} (h : w.linkBetween u v = some i) : i < w.links.length ∧ ∀ l, w.links[i]? = some l → ((l.endA = u ∧ l.endB = v) ∨ (l.endA = v ∧ l.endB = u)) := by
  unfold Network.linkBetween at h
  rw [List.findIdx?_eq_some_iff_getElem] at h
  obtain ⟨h1, h2, _⟩ := h
  refine ⟨h1, fun l hl => ?_⟩
  rw [List.getElem?_eq_getElem h1] at hl
  have e := Option.some.inj hl
  subst e
  simpa using h2
theorem along_mem {w : Network} : ∀ {l ks : List Nat}, w.linksAlong l = some ks → ∀ k ∈ ks, ∃ u v, u ∈ l ∧ v ∈ l ∧ w.linkBetween u v = some k
  | [], ks, h, k, hk => by
    have e : ks = [] := (Option.some.inj h).symm
    subst e
    cases hk
  | [_], ks, h, k, hk => by
    have e : ks = [] := (Option.some.inj h).symm
    subst e
    cases hk
  | u :: v :: l, ks, h, k, hk => by
    rw [Network.linksAlong] at h
    cases e1 : w.linkBetween u v with
    | none =>
      rw [e1] at h
      simp at h
    | some i =>
      cases e2 : w.linksAlong (v :: l) with
      | none =>
        rw [e1, e2] at h
        simp at h
      | some ks' =>
        rw [e1, e2] at h
        have e : ks = i :: ks' := (Option.some.inj h).symm
        subst e
        rcases List.mem_cons.mp hk with rfl | hk
        · exact ⟨u, v, .head _, .tail _ (.head _), e1⟩
        · obtain ⟨a, b, ha, hb, e⟩ := along_mem e2 k hk
          exact ⟨a, b, .tail _ ha, .tail _ hb, e⟩
theorem along_len {w : Network} : ∀ {l ks : List Nat}, w.linksAlong l = some ks → ks.length ≤ l.length
  | [], ks, h => by
    have e : ks = [] := (Option.some.inj h).symm
    subst e
    exact Nat.zero_le _
  | [_], ks, h => by
    have e : ks = [] := (Option.some.inj h).symm
    subst e
    exact Nat.zero_le _
  | u :: v :: l, ks, h => by
    rw [Network.linksAlong] at h
    cases e1 : w.linkBetween u v with
    | none =>
      rw [e1] at h
      simp at h
    | some i =>
      cases e2 : w.linksAlong (v :: l) with
      | none =>
        rw [e1, e2] at h
        simp at h
      | some ks' =>
        rw [e1, e2] at h
        have e : ks = i :: ks' := (Option.some.inj h).symm
        subst e
        exact Nat.succ_le_succ (along_len e2)
theorem along_nodup {w : Network} : ∀ {l ks : List Nat}, l.Nodup → w.linksAlong l = some ks → ks.Nodup
  | [], ks, _, h => by
    have e : ks = [] := (Option.some.inj h).symm
    subst e
    exact List.nodup_nil
  | [_], ks, _, h => by
    have e : ks = [] := (Option.some.inj h).symm
    subst e
    exact List.nodup_nil
  | u :: v :: l, ks, nd, h => by
    rw [Network.linksAlong] at h
    cases e1 : w.linkBetween u v with
    | none =>
      rw [e1] at h
      simp at h
    | some i =>
      cases e2 : w.linksAlong (v :: l) with
      | none =>
        rw [e1, e2] at h
        simp at h
      | some ks' =>
        rw [e1, e2] at h
        have e : ks = i :: ks' := (Option.some.inj h).symm
        subst e
        rw [List.nodup_cons] at nd ⊢
        refine ⟨fun hi => ?_, along_nodup nd.2 e2⟩
        obtain ⟨a, b, ha, hb, e⟩ := along_mem e2 i hi
        obtain ⟨hl, f1⟩ := between_lt e1
        obtain ⟨_, f2⟩ := between_lt e
        have g := List.getElem?_eq_getElem hl
        have q1 := f1 _ g
        have q2 := f2 _ g
        have hu : u = a ∨ u = b := by omega
        rcases hu with rfl | rfl
        · exact nd.1 ha
        · exact nd.1 hb
theorem flow_set_same {w : Network} {f : Nat} {g : Flow} (h : f < w.flows.length) : ({ w with flows := w.flows.set f g } : Network).flow f = g := by
  unfold Network.flow
  rw [List.getD_eq_getElem?_getD]
  show ((w.flows.set f g)[f]?).getD _ = _
  rw [List.getElem?_set_self h]
  rfl
theorem flow_set_ne {w : Network} {f i : Nat} {g : Flow} (h : i ≠ f) : ({ w with flows := w.flows.set f g } : Network).flow i = w.flow i := by
  unfold Network.flow
  rw [List.getD_eq_getElem?_getD, List.getD_eq_getElem?_getD]
  show ((w.flows.set f g)[i]?).getD _ = _
  rw [List.getElem?_set_ne (fun z => h z.symm)]
theorem ok_addPath {w : Network} (o : SpOk w) {f : Nat} {l ks : List Nat} (hf : f < w.flows.length) (hl : l.length ≤ 8) (hn : l.Nodup) (ha : w.linksAlong l = some ks) (h3 : (w.flow f).pathLinks.length < 3) :
    SpOk { w with flows := w.flows.set f { w.flow f with pathLinks := (w.flow f).pathLinks ++ [ks], pathNodes := (w.flow f).pathNodes ++ [l] } } := by
  have hm := flow_mem hf
  have hks : ∀ k ∈ ks, k < w.links.length := fun k hk => by
    obtain ⟨a, b, _, _, e⟩ := along_mem ha k hk
    exact (between_lt e).1
  generalize hg : ({ w.flow f with pathLinks := (w.flow f).pathLinks ++ [ks], pathNodes := (w.flow f).pathNodes ++ [l] } : Flow) = g
  have g1 : g.pathLinks = (w.flow f).pathLinks ++ [ks] := by rw [← hg]
  have g2 : g.pathNodes = (w.flow f).pathNodes ++ [l] := by rw [← hg]
  have g3 : g.demand = (w.flow f).demand := by rw [← hg]
  have hused : ∀ i v, i < w.flows.length → v ≤ (w.flow i).pathLinks.length → Network.usedLinks { w with flows := w.flows.set f g } i v = w.usedLinks i v := fun i v hi hv => by
    unfold Network.usedLinks
    by_cases e : i = f
    · subst e
      rw [flow_set_same hf, g1]
      by_cases e0 : v = 0
      · rw [if_pos e0, if_pos e0]
      · rw [if_neg e0, if_neg e0, List.getD_eq_getElem?_getD, List.getD_eq_getElem?_getD, List.getElem?_append_left (by omega)]
    · rw [flow_set_ne e]
  have hdem : ∀ i, Flow.demand (Network.flow { w with flows := w.flows.set f g } i) = (w.flow i).demand := fun i => by
    by_cases e : i = f
    · subst e
      rw [flow_set_same hf, g3]
    · rw [flow_set_ne e]
  refine ⟨o.n, o.lk, o.ends, o.cap, by show (w.flows.set f g).length ≤ 5; rw [List.length_set]; exact o.fl, fun x hx => ?_, fun x hx => ?_, by show w.assignment.length = (w.flows.set f g).length; rw [List.length_set]; exact o.asg, fun i hi => ?_, ?_⟩
  · rcases List.mem_or_eq_of_mem_set hx with hx | rfl
    · exact o.dem x hx
    · rw [g3]
      exact o.dem _ hm
  · rcases List.mem_or_eq_of_mem_set hx with hx | rfl
    · exact ⟨(o.fs x hx).few, (o.fs x hx).same, (o.fs x hx).nd, (o.fs x hx).sh⟩
    · have q := o.fs _ hm
      refine ⟨by rw [g1, List.length_append]; exact h3, by rw [g1, g2, List.length_append, List.length_append, q.same]; rfl, fun p hp => ?_, fun p hp => ?_⟩
      · rw [g1] at hp
        rcases List.mem_append.mp hp with hp | hp
        · exact q.nd p hp
        · rw [List.mem_singleton] at hp
          subst hp
          exact ⟨along_nodup hn ha, Nat.le_trans (along_len ha) hl, hks⟩
      · rw [g2] at hp
        rcases List.mem_append.mp hp with hp | hp
        · exact q.sh p hp
        · rw [List.mem_singleton] at hp
          subst hp
          exact hl
  · have hi : i < w.flows.length := by
      have : i < (w.flows.set f g).length := hi
      rw [List.length_set] at this
      exact this
    show w.assignment.getD i 0 ≤ _
    have := o.fit i hi
    by_cases e : i = f
    · subst e
      rw [flow_set_same hf, g1, List.length_append]
      exact Nat.le_add_right_of_le this
    · rw [flow_set_ne e]
      exact this
  · rw [feasible_iff]
    intro j hj
    have hload : Network.load { w with flows := w.flows.set f g } w.assignment j = w.load w.assignment j := by
      rw [load_eq, load_eq]
      show ((List.range (w.flows.set f g).length).map _).sum = _
      rw [List.length_set]
      refine sum_congr fun i hi => ?_
      have hi := List.mem_range.mp hi
      unfold part
      rw [hused i _ hi (o.fit i hi), hdem]
    show Network.load { w with flows := w.flows.set f g } w.assignment j ≤ (w.link j).capacity
    rw [hload]
    exact feasible_iff.mp o.feas j hj
theorem link_set_same {w : Network} {i : Nat} {l : Link} (h : i < w.links.length) : ({ w with links := w.links.set i l } : Network).link i = l := by
  unfold Network.link
  rw [List.getD_eq_getElem?_getD]
  show ((w.links.set i l)[i]?).getD _ = _
  rw [List.getElem?_set_self h]
  rfl
theorem link_set_ne {w : Network} {i j : Nat} {l : Link} (h : j ≠ i) : ({ w with links := w.links.set i l } : Network).link j = w.link j := by
  unfold Network.link
  rw [List.getD_eq_getElem?_getD, List.getD_eq_getElem?_getD]
  show ((w.links.set i l)[j]?).getD _ = _
  rw [List.getElem?_set_ne (fun z => h z.symm)]
theorem link_mem {w : Network} {i : Nat} (h : i < w.links.length) : w.link i ∈ w.links := by
  unfold Network.link
  rw [List.getD_eq_getElem?_getD, List.getElem?_eq_getElem h]
  exact List.getElem_mem h
theorem ok_setCap {w : Network} (o : SpOk w) {i c : Nat} (hi : i < w.links.length) (h1 : c ≤ 99) (h2 : w.load w.assignment i ≤ c) : SpOk { w with links := w.links.set i { w.link i with capacity := c } } := by
  refine ⟨o.n, by show (w.links.set i _).length ≤ 10; rw [List.length_set]; exact o.lk, fun x hx => ?_, fun x hx => ?_, o.fl, o.dem, fun f hf => ⟨(o.fs f hf).few, (o.fs f hf).same, fun p hp => ⟨((o.fs f hf).nd p hp).1, ((o.fs f hf).nd p hp).2.1, fun k hk => ?_⟩, (o.fs f hf).sh⟩, o.asg, o.fit, ?_⟩
  · rcases List.mem_or_eq_of_mem_set hx with hx | rfl
    · exact o.ends x hx
    · show (w.link i).endA ≠ (w.link i).endB
      exact o.ends _ (link_mem hi)
  · rcases List.mem_or_eq_of_mem_set hx with hx | rfl
    · exact o.cap x hx
    · exact h1
  · show k < (w.links.set i _).length
    rw [List.length_set]
    exact ((o.fs f hf).nd p hp).2.2 k hk
  · rw [feasible_iff]
    intro j hj
    have hj : j < w.links.length := by
      have : j < (w.links.set i _).length := hj
      rw [List.length_set] at this
      exact this
    show w.load w.assignment j ≤ _
    by_cases e : j = i
    · subst e
      rw [link_set_same hi]
      exact h2
    · rw [link_set_ne e]
      exact feasible_iff.mp o.feas j hj
theorem stop_feasible {w : Network} {s : List Nat} {f : Nat} (h : f < w.flows.length) (hs : f < s.length) (hf : w.isFeasible s = true) : w.isFeasible (s.set f 0) = true := by
  rw [feasible_iff] at hf ⊢
  intro j hj
  rw [load_set h hs]
  have h1 := hf j hj
  rw [load_split h (s := s)] at h1
  show rest w s f j + (if ([] : List Nat).contains j = true then _ else 0) ≤ _
  have : (if ([] : List Nat).contains j = true then (w.flow f).demand else 0) = 0 := by simp
  rw [this]
  omega
theorem fit_set {w : Network} (o : SpOk w) {f v : Nat} (hf : f < w.flows.length) (hv : v ≤ (w.flow f).pathLinks.length) : ∀ i, i < w.flows.length → (w.assignment.set f v).getD i 0 ≤ (w.flow i).pathLinks.length := fun i hi => by
  by_cases e : i = f
  · subst e
    rw [getD_set_same (by rw [o.asg]; exact hi)]
    exact hv
  · rw [getD_set_ne e]
    exact o.fit i hi
theorem cand_linkDrained {w : Network} (o : SpOk w) {i : Nat} : ∀ t ∈ w.linkDrained i, Cand w t := fun t ht => (mem_feasible o).mp (List.mem_filter.mp ht).1
theorem nodup_linkDrained (w : Network) (i : Nat) : (w.linkDrained i).Nodup := (nodup_feasible w).filter _
theorem cand_nodeDrained {w : Network} (o : SpOk w) {i : Nat} : ∀ t ∈ w.nodeDrained i, Cand w t := fun t ht => (mem_feasible o).mp (List.mem_filter.mp ht).1
theorem nodup_nodeDrained (w : Network) (i : Nat) : (w.nodeDrained i).Nodup := (nodup_feasible w).filter _
/-- what an operation's lists are asked to be -/
def Asked : Operation → Prop
  | .addPath _ l => l.length ≤ 8
  | _ => True
theorem execute_ok {w : Network} (o : SpOk w) (op : Operation) (a : Asked op) : SpOk (execute w op).1 := by
  cases op with
  | createNetwork n =>
    show SpOk (if n < 2 ∨ 6 < n then (w, error (-22)) else (create n, ok 0 [])).1
    split
    · exact o
    · rename_i h
      exact ok_create h
  | addLink u v c =>
    show SpOk (if w.nodes ≤ u ∨ w.nodes ≤ v then (w, error (-2)) else if u = v ∨ 99 < c then (w, error (-22)) else if (w.linkBetween u v).isSome = true then (w, error (-17)) else if maxLinks ≤ w.links.length then (w, error (-28)) else ({ w with links := w.links ++ [⟨u, v, c⟩] }, ok w.links.length [])).1
    split
    · exact o
    · split
      · exact o
      · rename_i h
        split
        · exact o
        · split
          · exact o
          · rename_i h4
            have h4 : ¬ 10 ≤ w.links.length := h4
            exact ok_addLink o (fun z => h (.inl z)) (by show c ≤ 99; omega) (by omega)
  | addFlow s t d =>
    show SpOk (if w.nodes ≤ s ∨ w.nodes ≤ t then (w, error (-2)) else if s = t ∨ d = 0 ∨ 99 < d then (w, error (-22)) else if maxFlows ≤ w.flows.length then (w, error (-28)) else ({ w with flows := w.flows ++ [⟨s, t, d, [], []⟩], assignment := w.assignment ++ [0] }, ok w.flows.length [])).1
    split
    · exact o
    · split
      · exact o
      · rename_i h
        split
        · exact o
        · rename_i h4
          have h4 : ¬ 5 ≤ w.flows.length := h4
          exact ok_addFlow o (by omega) (by omega) (by omega)
  | addPath f l =>
    show SpOk (if w.flows.length ≤ f then (w, error (-2)) else if w.isPath f l = false then (w, error (-22)) else if (w.flow f).pathNodes.contains l = true then (w, error (-17)) else if maxPaths ≤ (w.flow f).pathLinks.length then (w, error (-28)) else
      ({ w with flows := w.flows.set f { w.flow f with pathLinks := (w.flow f).pathLinks ++ [(w.linksAlong l).getD []], pathNodes := (w.flow f).pathNodes ++ [l] } }, ok (w.flow f).pathLinks.length [])).1
    split
    · exact o
    · rename_i h1
      split
      · exact o
      · rename_i h2
        split
        · exact o
        · split
          · exact o
          · rename_i h4
            have h4 : ¬ 3 ≤ (w.flow f).pathLinks.length := h4
            have h2 : w.isPath f l = true := by simpa using h2
            unfold Network.isPath at h2
            simp only [Bool.and_eq_true, decide_eq_true_eq] at h2
            obtain ⟨_, hn, _, _, hs⟩ := h2
            obtain ⟨ks, hk⟩ := Option.isSome_iff_exists.mp hs
            rw [hk]
            exact ok_addPath o (by omega) a hn hk (by omega)
  | placeFlow f p =>
    show SpOk (if w.flows.length ≤ f ∨ (w.flow f).pathLinks.length ≤ p then (w, error (-2)) else if w.assignment.getD f 0 ≠ 0 then (w, error (-17)) else if w.isFeasible (w.assignment.set f (p + 1)) = false then (w, error (-33)) else ({ w with assignment := w.assignment.set f (p + 1) }, ok (w.flow f).demand [])).1
    split
    · exact o
    · rename_i h1
      split
      · exact o
      · split
        · exact o
        · rename_i h3
          have hf : f < w.flows.length := by omega
          exact o.withAsg (by rw [List.length_set]; exact o.asg) (fit_set o hf (by omega)) (by simpa using h3)
  | stopFlow f =>
    show SpOk (if w.flows.length ≤ f then (w, error (-2)) else if w.assignment.getD f 0 = 0 then (w, error (-6)) else ({ w with assignment := w.assignment.set f 0 }, ok (w.assignment.getD f 0 - 1) [])).1
    split
    · exact o
    · rename_i h1
      split
      · exact o
      · have hf : f < w.flows.length := by omega
        exact o.withAsg (by rw [List.length_set]; exact o.asg) (fit_set o hf (Nat.zero_le _)) (stop_feasible hf (by rw [o.asg]; exact hf) o.feas)
  | moveFlow f p =>
    show SpOk (if w.flows.length ≤ f ∨ (w.flow f).pathLinks.length ≤ p then (w, error (-2)) else if w.assignment.getD f 0 = 0 then (w, error (-6)) else if w.assignment.getD f 0 = p + 1 then (w, error (-17)) else if w.canMove w.assignment f (p + 1) = false then (w, error (-33)) else ({ w with assignment := w.assignment.set f (p + 1) }, ok (w.assignment.getD f 0 - 1) [])).1
    split
    · exact o
    · rename_i h1
      split
      · exact o
      · split
        · exact o
        · split
          · exact o
          · rename_i h4
            have hf : f < w.flows.length := by omega
            have hm : (f, p + 1) ∈ w.moves w.assignment := mem_moves.mpr ⟨hf, by simpa using h4⟩
            exact o.withCand (cand_move (cand_asg o) hm)
  | setCapacity i c =>
    show SpOk (if w.links.length ≤ i then (w, error (-2)) else if 99 < c then (w, error (-22)) else if c < w.load w.assignment i then (w, error (-33)) else ({ w with links := w.links.set i { w.link i with capacity := c } }, ok (w.link i).capacity [])).1
    split
    · exact o
    · split
      · exact o
      · split
        · exact o
        · exact ok_setCap o (by omega) (by omega) (by omega)
  | linkLoads => exact o
  | assignment => exact o
  | allowedMoves => exact o
  | planTo l =>
    show SpOk (if _ then (w, error (-22)) else if w.isFeasible l = false then (w, error (-35)) else (w, w.planResult [l])).1
    split
    · exact o
    · split <;> exact o
  | planLinkDrain i =>
    show SpOk (if w.links.length ≤ i then (w, error (-2)) else (w, w.planResult (w.linkDrained i))).1
    split <;> exact o
  | planNodeDrain v =>
    show SpOk (if w.nodes ≤ v then (w, error (-2)) else (w, w.planResult (w.nodeDrained v))).1
    split <;> exact o
  | drainLink i =>
    show SpOk (if w.links.length ≤ i then (w, error (-2)) else (match w.plan (w.linkDrained i) with
      | some p => ({ w with assignment := p.foldl applyMove w.assignment }, okMoves p)
      | none => (w, error (-33)))).1
    split
    · exact o
    · cases e : w.plan (w.linkDrained i) with
      | none => exact o
      | some p =>
        have b := (plan_some o (cand_linkDrained o) (nodup_linkDrained w i)).mp e
        exact o.withCand (valid_cand (cand_asg o) b.valid)
  | reachableCount => exact o
  | componentCount => exact o
  | stuckFlows i =>
    show SpOk (if w.links.length ≤ i then (w, error (-2)) else (w, okList (w.stuckFlows i))).1
    split <;> exact o
  | flowPaths f =>
    show SpOk (if w.flows.length ≤ f then (w, error (-2)) else (w, ok (w.flow f).pathNodes.length ((w.flow f).pathNodes.flatMap fun l => l.length :: l))).1
    split <;> exact o
  | totals => exact o
/-- the machine: no network yet, or one of which it is so -/
def OkS (s : Option Network) : Prop := ∀ w, s = some w → SpOk w
theorem step_ok {s : Option Network} (o : OkS s) (op : Operation) (a : Asked op) : OkS (step s op).1 := by
  intro w h
  cases s with
  | some v =>
    have e : (execute v op).1 = w := Option.some.inj h
    rw [← e]
    exact execute_ok (o v rfl) op a
  | none =>
    cases op with
    | createNetwork n =>
      have h : (if (execute (create 2) (.createNetwork n)).2.value < 0 then none else some (execute (create 2) (.createNetwork n)).1) = some w := h
      by_cases c : n < 2 ∨ 6 < n
      · rw [show execute (create 2) (.createNetwork n) = (create 2, error (-22)) from if_pos c] at h
        cases h
      · rw [show execute (create 2) (.createNetwork n) = (create n, ok 0 []) from if_neg c] at h
        have e : create n = w := Option.some.inj h
        rw [← e]
        exact ok_create c
    | _ => cases h
end FmS

set_option linter.all false
/-! How a request's numbers are calls, and what is due for them. Nothing of the program. -/
namespace FmS
open Su203
/-- how many whole numbers a call has, and whether a row -/
def counts : List Nat := [1, 3, 3, 1, 2, 1, 2, 2, 0, 0, 0, 0, 1, 1, 1, 0, 0, 1, 1, 0]
def hasRow (p : Nat) : Bool := p == 3 || p == 11
theorem shape_nat {p : Int} {n k : Nat} (h : PySu203.shape p = some (n, k)) : ∃ q : Nat, p = (q : Int) ∧ q < 20 ∧ counts[q]? = some n ∧ k = if hasRow q = true then 1 else 0 := by
  by_cases hb : 0 ≤ p ∧ p < 20
  · obtain ⟨q, rfl⟩ : ∃ q : Nat, p = (q : Int) := ⟨p.toNat, by omega⟩
    have cases20 : q = 0 ∨ q = 1 ∨ q = 2 ∨ q = 3 ∨ q = 4 ∨ q = 5 ∨ q = 6 ∨ q = 7 ∨ q = 8 ∨ q = 9 ∨ q = 10 ∨ q = 11 ∨ q = 12 ∨ q = 13 ∨ q = 14 ∨ q = 15 ∨ q = 16 ∨ q = 17 ∨ q = 18 ∨ q = 19 := by omega
    rcases cases20 with rfl | rfl | rfl | rfl | rfl | rfl | rfl | rfl | rfl | rfl | rfl | rfl | rfl | rfl | rfl | rfl | rfl | rfl | rfl | rfl
    · have h : some (1, 0) = some (n, k) := h
      cases h
      exact ⟨0, rfl, by decide, rfl, rfl⟩
    · have h : some (3, 0) = some (n, k) := h
      cases h
      exact ⟨1, rfl, by decide, rfl, rfl⟩
    · have h : some (3, 0) = some (n, k) := h
      cases h
      exact ⟨2, rfl, by decide, rfl, rfl⟩
    · have h : some (1, 1) = some (n, k) := h
      cases h
      exact ⟨3, rfl, by decide, rfl, rfl⟩
    · have h : some (2, 0) = some (n, k) := h
      cases h
      exact ⟨4, rfl, by decide, rfl, rfl⟩
    · have h : some (1, 0) = some (n, k) := h
      cases h
      exact ⟨5, rfl, by decide, rfl, rfl⟩
    · have h : some (2, 0) = some (n, k) := h
      cases h
      exact ⟨6, rfl, by decide, rfl, rfl⟩
    · have h : some (2, 0) = some (n, k) := h
      cases h
      exact ⟨7, rfl, by decide, rfl, rfl⟩
    · have h : some (0, 0) = some (n, k) := h
      cases h
      exact ⟨8, rfl, by decide, rfl, rfl⟩
    · have h : some (0, 0) = some (n, k) := h
      cases h
      exact ⟨9, rfl, by decide, rfl, rfl⟩
    · have h : some (0, 0) = some (n, k) := h
      cases h
      exact ⟨10, rfl, by decide, rfl, rfl⟩
    · have h : some (0, 1) = some (n, k) := h
      cases h
      exact ⟨11, rfl, by decide, rfl, rfl⟩
    · have h : some (1, 0) = some (n, k) := h
      cases h
      exact ⟨12, rfl, by decide, rfl, rfl⟩
    · have h : some (1, 0) = some (n, k) := h
      cases h
      exact ⟨13, rfl, by decide, rfl, rfl⟩
    · have h : some (1, 0) = some (n, k) := h
      cases h
      exact ⟨14, rfl, by decide, rfl, rfl⟩
    · have h : some (0, 0) = some (n, k) := h
      cases h
      exact ⟨15, rfl, by decide, rfl, rfl⟩
    · have h : some (0, 0) = some (n, k) := h
      cases h
      exact ⟨16, rfl, by decide, rfl, rfl⟩
    · have h : some (1, 0) = some (n, k) := h
      cases h
      exact ⟨17, rfl, by decide, rfl, rfl⟩
    · have h : some (1, 0) = some (n, k) := h
      cases h
      exact ⟨18, rfl, by decide, rfl, rfl⟩
    · have h : some (0, 0) = some (n, k) := h
      cases h
      exact ⟨19, rfl, by decide, rfl, rfl⟩
  · unfold PySu203.shape at h
    rw [if_neg (by omega), if_neg (by omega), if_neg (by omega), if_neg (by omega), if_neg (by omega), if_neg (by omega), if_neg (by omega), if_neg (by omega), if_neg (by omega), if_neg (by omega), if_neg (by omega), if_neg (by omega), if_neg (by omega), if_neg (by omega), if_neg (by omega), if_neg (by omega), if_neg (by omega), if_neg (by omega), if_neg (by omega), if_neg (by omega)] at h
    cases h
/-- a call as it is read: its number, its whole numbers, its row (empty where it has none) -/
structure PC where
  op : Nat
  nums : List Nat
  row : List Nat
abbrev zints (l : List Nat) : List Int := l.map fun (n : Nat) => ((n : Nat) : Int)
theorem ints_take (l : List Nat) (k : Nat) : (zints l).take k = zints (l.take k) := by
  unfold zints
  rw [List.map_take]
theorem ints_drop (l : List Nat) (k : Nat) : (zints l).drop k = zints (l.drop k) := by
  unfold zints
  rw [List.map_drop]
theorem ints_inj {a b : List Nat} (h : zints a = zints b) : a = b := by
  have := congrArg (List.map Int.toNat) h
  unfold zints at this
  rw [List.map_map, List.map_map] at this
  have e : (Int.toNat ∘ fun (n : Nat) => ((n : Nat) : Int)) = id := by
    funext n
    simp
  rw [e, List.map_id, List.map_id] at this
  exact this
def PC.raw (c : PC) : List (List Int) := if hasRow c.op = true then [(c.op : Int) :: zints c.nums, zints c.row] else [(c.op : Int) :: zints c.nums]
def PC.Ok (c : PC) : Prop := c.op < 20 ∧ counts[c.op]? = some c.nums.length ∧ (hasRow c.op = false → c.row = [])
/-- the numbers that a call takes -/
def PC.flat (c : PC) : List Nat := c.op :: (c.nums ++ if hasRow c.op = true then c.row.length :: c.row else [])
theorem call_read {l : List Nat} {c : List (List Int)} {t : List Int} (h : PyFlat.call PySu203.shape (zints l) = some (c, t)) : ∃ (pc : PC) (r : List Nat), pc.Ok ∧ c = pc.raw ∧ t = zints r ∧ l = pc.flat ++ r := by
  cases l with
  | nil => cases h
  | cons p l =>
    have h : (match PySu203.shape (p : Int) with
      | none => none
      | some (n, k) => if (zints l).length < n then none else match PyFlat.rows k ((zints l).drop n) with
        | none => none
        | some (xs, t) => some (((p : Int) :: (zints l).take n) :: xs, t)) = some (c, t) := h
    cases es : PySu203.shape (p : Int) with
    | none =>
      rw [es] at h
      cases h
    | some nk =>
      obtain ⟨n, k⟩ := nk
      rw [es] at h
      obtain ⟨q, hq, hq20, hn, hk⟩ := shape_nat es
      have hpq : p = q := by omega
      subst hpq
      have h : (if (zints l).length < n then none else match PyFlat.rows k ((zints l).drop n) with
        | none => none
        | some (xs, t) => some (((p : Int) :: (zints l).take n) :: xs, t)) = some (c, t) := h
      by_cases hl : (zints l).length < n
      · rw [if_pos hl] at h
        cases h
      · rw [if_neg hl, ints_drop, ints_take] at h
        have hl : n ≤ l.length := by
          rw [List.length_map] at hl
          omega
        have hlt : (l.take n).length = n := by rw [List.length_take]; omega
        by_cases hr : hasRow p = true
        · rw [if_pos hr] at hk
          subst hk
          cases ed : l.drop n with
          | nil =>
            rw [ed] at h
            cases h
          | cons m r =>
            rw [ed] at h
            have h : (match (match (if 0 ≤ (m : Int) ∧ (m : Int).toNat ≤ (zints r).length then some ((zints r).take (m : Int).toNat, (zints r).drop (m : Int).toNat) else none : Option (List Int × List Int)) with
              | none => none
              | some (x, s) => some ([x], s)) with
              | none => none
              | some (xs, t) => some (((p : Int) :: zints (l.take n)) :: xs, t)) = some (c, t) := by
              rw [← h]
              show _ = (match (match PyFlat.row (zints (m :: r)) with
                | none => none
                | some (x, s) => match PyFlat.rows 0 s with
                  | none => none
                  | some (xs, t) => some (x :: xs, t)) with
                | none => none
                | some (xs, t) => some (((p : Int) :: zints (l.take n)) :: xs, t))
              show _ = (match (match (if 0 ≤ (m : Int) ∧ (m : Int).toNat ≤ (zints r).length then some ((zints r).take (m : Int).toNat, (zints r).drop (m : Int).toNat) else none : Option (List Int × List Int)) with
                | none => none
                | some (x, s) => some ([x], s)) with
                | none => none
                | some (xs, t) => some (((p : Int) :: zints (l.take n)) :: xs, t))
              rfl
            rw [Int.toNat_natCast, List.length_map] at h
            by_cases hm : 0 ≤ (m : Int) ∧ m ≤ r.length
            · rw [if_pos hm, ints_take, ints_drop] at h
              have h := Option.some.inj h
              obtain ⟨h1, h2⟩ := Prod.mk.inj h
              have hmr : (r.take m).length = m := by rw [List.length_take]; omega
              refine ⟨⟨p, l.take n, r.take m⟩, r.drop m, ⟨hq20, by rw [hlt]; exact hn, fun z => by rw [hr] at z; cases z⟩, ?_, h2.symm, ?_⟩
              · rw [← h1]
                unfold PC.raw
                rw [if_pos hr]
              · unfold PC.flat
                rw [if_pos hr]
                show p :: l = p :: (l.take n ++ ((r.take m).length :: r.take m)) ++ r.drop m
                rw [hmr, List.cons_append, List.append_assoc]
                show p :: l = p :: (l.take n ++ (m :: (r.take m ++ r.drop m)))
                rw [List.take_append_drop, ← ed, List.take_append_drop]
            · rw [if_neg hm] at h
              cases h
        · have hr : hasRow p = false := by simpa using hr
          rw [hr] at hk
          have hk : k = 0 := hk
          subst hk
          have h := Option.some.inj h
          obtain ⟨h1, h2⟩ := Prod.mk.inj h
          refine ⟨⟨p, l.take n, []⟩, l.drop n, ⟨hq20, by rw [hlt]; exact hn, fun _ => rfl⟩, ?_, h2.symm, ?_⟩
          · rw [← h1]
            unfold PC.raw
            rw [hr]
            rfl
          · unfold PC.flat
            rw [hr]
            show p :: l = p :: (l.take n ++ []) ++ l.drop n
            rw [List.append_nil, List.cons_append, List.take_append_drop]
theorem flat_pos (c : PC) : 0 < c.flat.length := Nat.succ_pos _
/-- the whole list, call by call -/
theorem calls_read : ∀ (f : Nat) (l : List Nat) (raw : List (List (List Int))), PyFlat.calls PySu203.shape f (zints l) = some raw → ∃ pcs : List PC, (∀ c ∈ pcs, c.Ok) ∧ raw = pcs.map PC.raw ∧ l = pcs.flatMap PC.flat
  | f, [], raw, h => by
    have e : raw = [] := by
      cases f <;> exact (Option.some.inj h).symm
    subst e
    exact ⟨[], fun c hc => (List.not_mem_nil hc).elim, rfl, rfl⟩
  | 0, p :: l, raw, h => by cases h
  | f + 1, p :: l, raw, h => by
    have h : (match PyFlat.call PySu203.shape (zints (p :: l)) with
      | none => none
      | some (c, t) => match PyFlat.calls PySu203.shape f t with
        | none => none
        | some cs => some (c :: cs)) = some raw := h
    cases ec : PyFlat.call PySu203.shape (zints (p :: l)) with
    | none =>
      rw [ec] at h
      cases h
    | some ct =>
      obtain ⟨c, t⟩ := ct
      rw [ec] at h
      obtain ⟨pc, r, ok, rfl, rfl, el⟩ := call_read ec
      cases et : PyFlat.calls PySu203.shape f (zints r) with
      | none =>
        have h : (match PyFlat.calls PySu203.shape f (zints r) with
          | none => none
          | some cs => some (pc.raw :: cs)) = some raw := h
        rw [et] at h
        cases h
      | some cs =>
        have h : (match PyFlat.calls PySu203.shape f (zints r) with
          | none => none
          | some cs => some (pc.raw :: cs)) = some raw := h
        rw [et] at h
        have h := Option.some.inj h
        subst h
        obtain ⟨pcs, ok', rfl, rfl⟩ := calls_read f r cs et
        refine ⟨pc :: pcs, fun c hc => ?_, rfl, el⟩
        rcases List.mem_cons.mp hc with rfl | hc
        · exact ok
        · exact ok' c hc
/-! ### the operation that a call is -/
def opOf (c : PC) : Operation :=
  let x := fun i => c.nums.getD i 0
  match c.op with
  | 0 => .createNetwork (x 0)
  | 1 => .addLink (x 0) (x 1) (x 2)
  | 2 => .addFlow (x 0) (x 1) (x 2)
  | 3 => .addPath (x 0) c.row
  | 4 => .placeFlow (x 0) (x 1)
  | 5 => .stopFlow (x 0)
  | 6 => .moveFlow (x 0) (x 1)
  | 7 => .setCapacity (x 0) (x 1)
  | 8 => .linkLoads
  | 9 => .assignment
  | 10 => .allowedMoves
  | 11 => .planTo c.row
  | 12 => .planLinkDrain (x 0)
  | 13 => .planNodeDrain (x 0)
  | 14 => .drainLink (x 0)
  | 15 => .reachableCount
  | 16 => .componentCount
  | 17 => .stuckFlows (x 0)
  | 18 => .flowPaths (x 0)
  | _ => .totals
theorem nats_back (l : List Nat) : (zints l).map Int.toNat = l := by
  unfold zints
  rw [List.map_map]
  have e : (Int.toNat ∘ fun (n : Nat) => ((n : Nat) : Int)) = id := by
    funext n
    simp
  rw [e, List.map_id]
theorem len1 {l : List Nat} (h : some 1 = some l.length) : ∃ a, l = [a] := by
  have h := Option.some.inj h
  match l, h with
  | [a], _ => exact ⟨a, rfl⟩
theorem len0 {l : List Nat} (h : some 0 = some l.length) : l = [] := List.length_eq_zero_iff.mp (Option.some.inj h).symm
theorem len2 {l : List Nat} (h : some 2 = some l.length) : ∃ a b, l = [a, b] := by
  have h := Option.some.inj h
  match l, h with
  | [a, b], _ => exact ⟨a, b, rfl⟩
theorem len3 {l : List Nat} (h : some 3 = some l.length) : ∃ a b c, l = [a, b, c] := by
  have h := Option.some.inj h
  match l, h with
  | [a, b, c], _ => exact ⟨a, b, c, rfl⟩
theorem op_of {c : PC} (h : c.Ok) : (PySu203.whole c.raw).headD [] = (c.op : Int) :: (zints c.nums ++ zints c.row) ∧ Su203Neutral.callOf ((c.op : Int) :: (zints c.nums ++ zints c.row)) = some (opOf c) := by
  obtain ⟨p, nums, row⟩ := c
  obtain ⟨h1, h2, h3⟩ := h
  have h1 : p < 20 := h1
  have h2 : counts[p]? = some nums.length := h2
  have h3 : hasRow p = false → row = [] := h3
  have cases20 : p = 0 ∨ p = 1 ∨ p = 2 ∨ p = 3 ∨ p = 4 ∨ p = 5 ∨ p = 6 ∨ p = 7 ∨ p = 8 ∨ p = 9 ∨ p = 10 ∨ p = 11 ∨ p = 12 ∨ p = 13 ∨ p = 14 ∨ p = 15 ∨ p = 16 ∨ p = 17 ∨ p = 18 ∨ p = 19 := by omega
  rcases cases20 with rfl | rfl | rfl | rfl | rfl | rfl | rfl | rfl | rfl | rfl | rfl | rfl | rfl | rfl | rfl | rfl | rfl | rfl | rfl | rfl
  · obtain ⟨a, rfl⟩ := len1 h2
    obtain rfl := h3 rfl
    exact ⟨rfl, rfl⟩
  · obtain ⟨a, b, d, rfl⟩ := len3 h2
    obtain rfl := h3 rfl
    exact ⟨rfl, rfl⟩
  · obtain ⟨a, b, d, rfl⟩ := len3 h2
    obtain rfl := h3 rfl
    exact ⟨rfl, rfl⟩
  · obtain ⟨a, rfl⟩ := len1 h2
    refine ⟨rfl, ?_⟩
    show some (Operation.addPath _ ((zints row).map Int.toNat)) = some (Operation.addPath _ row)
    rw [nats_back]
    rfl
  · obtain ⟨a, b, rfl⟩ := len2 h2
    obtain rfl := h3 rfl
    exact ⟨rfl, rfl⟩
  · obtain ⟨a, rfl⟩ := len1 h2
    obtain rfl := h3 rfl
    exact ⟨rfl, rfl⟩
  · obtain ⟨a, b, rfl⟩ := len2 h2
    obtain rfl := h3 rfl
    exact ⟨rfl, rfl⟩
  · obtain ⟨a, b, rfl⟩ := len2 h2
    obtain rfl := h3 rfl
    exact ⟨rfl, rfl⟩
  · obtain rfl := len0 h2
    obtain rfl := h3 rfl
    exact ⟨rfl, rfl⟩
  · obtain rfl := len0 h2
    obtain rfl := h3 rfl
    exact ⟨rfl, rfl⟩
  · obtain rfl := len0 h2
    obtain rfl := h3 rfl
    exact ⟨rfl, rfl⟩
  · obtain rfl := len0 h2
    refine ⟨rfl, ?_⟩
    show some (Operation.planTo ((zints row).map Int.toNat)) = some (Operation.planTo row)
    rw [nats_back]
  · obtain ⟨a, rfl⟩ := len1 h2
    obtain rfl := h3 rfl
    exact ⟨rfl, rfl⟩
  · obtain ⟨a, rfl⟩ := len1 h2
    obtain rfl := h3 rfl
    exact ⟨rfl, rfl⟩
  · obtain ⟨a, rfl⟩ := len1 h2
    obtain rfl := h3 rfl
    exact ⟨rfl, rfl⟩
  · obtain rfl := len0 h2
    obtain rfl := h3 rfl
    exact ⟨rfl, rfl⟩
  · obtain rfl := len0 h2
    obtain rfl := h3 rfl
    exact ⟨rfl, rfl⟩
  · obtain ⟨a, rfl⟩ := len1 h2
    obtain rfl := h3 rfl
    exact ⟨rfl, rfl⟩
  · obtain ⟨a, rfl⟩ := len1 h2
    obtain rfl := h3 rfl
    exact ⟨rfl, rfl⟩
  · obtain rfl := len0 h2
    obtain rfl := h3 rfl
    exact ⟨rfl, rfl⟩
/-! ### what is due -/
abbrev State := Option Network
def resI (r : Result) : List Int := r.value :: zints r.fields
/-- the state behind calls, the numbers told of them -/
def stateOf : State → List PC → State
  | s, [] => s
  | s, c :: r => stateOf (Su203.step s (opOf c)).1 r
def toldOf : State → List PC → List Int
  | _, [] => []
  | s, c :: r => (((resI (Su203.step s (opOf c)).2).length : Nat) : Int) :: resI (Su203.step s (opOf c)).2 ++ toldOf (Su203.step s (opOf c)).1 r
theorem due_of : ∀ (pcs : List PC) (s : State), (∀ c ∈ pcs, c.Ok) → PyFlat.told (PyFlat.played (fun s c => Su203Neutral.step s (c.headD [])) s ((pcs.map PC.raw).map PySu203.whole)) = toldOf s pcs
  | [], s, _ => rfl
  | c :: r, s, h => by
    have hc := op_of (h c (.head _))
    have e : Su203Neutral.step s ((PySu203.whole c.raw).headD []) = ((Su203.step s (opOf c)).1, resI (Su203.step s (opOf c)).2) := by
      rw [hc.1]
      unfold Su203Neutral.step
      rw [hc.2]
      rfl
    have ih := due_of r (Su203.step s (opOf c)).1 fun d hd => h d (.tail _ hd)
    show PyFlat.told (PyFlat.played _ s (PySu203.whole c.raw :: (r.map PC.raw).map PySu203.whole)) = _
    unfold PyFlat.played PyFlat.told
    rw [List.flatMap_cons, e]
    unfold PyFlat.told at ih
    rw [ih]
    rfl
theorem told_app : ∀ (a b : List PC) (s : State), toldOf s (a ++ b) = toldOf s a ++ toldOf (stateOf s a) b
  | [], b, s => rfl
  | c :: a, b, s => by
    show _ :: resI _ ++ toldOf _ (a ++ b) = _ :: resI _ ++ toldOf _ a ++ _
    rw [told_app a b, List.cons_append, List.cons_append, List.cons_append, List.append_assoc]
    rfl
theorem state_app : ∀ (a b : List PC) (s : State), stateOf s (a ++ b) = stateOf (stateOf s a) b
  | [], b, s => rfl
  | c :: a, b, s => state_app a b _
/-- what the request says of its calls -/
theorem asked_of {l : List Nat} (h : PySu203.answers_asked (zints l) = true) : ∃ pcs : List PC, (∀ c ∈ pcs, c.Ok) ∧ l = pcs.flatMap PC.flat ∧ PySu203.answers (zints l) = toldOf none pcs ∧ (toldOf none pcs).length ≤ 10000000 ∧ pcs.length ≤ 400 ∧ ∀ c ∈ pcs, c.row.length ≤ 8 := by
  unfold PySu203.answers_asked at h
  cases ec : PyFlat.calls PySu203.shape (zints l).length (zints l) with
  | none =>
    rw [ec] at h
    cases h
  | some raw =>
    rw [ec] at h
    have h : (!raw.isEmpty && PyFlat.atMost 400 raw && PyInside.calls PySu203.bound raw && Su203Neutral.asked ((raw.map PySu203.whole).map fun c => c.headD []) && PyFlat.short 10000000 (PySu203.answers (zints l))) = true := h
    simp only [Bool.and_eq_true] at h
    obtain ⟨⟨⟨⟨_, h2⟩, _⟩, h4⟩, h5⟩ := h
    obtain ⟨pcs, ok, rfl, el⟩ := calls_read _ _ _ ec
    have due : PySu203.answers (zints l) = toldOf none pcs := by
      unfold PySu203.answers PySu203.calls
      rw [ec]
      exact due_of pcs none ok
    refine ⟨pcs, ok, el, due, ?_, ?_, fun c hc => ?_⟩
    · rw [← due]
      exact of_decide_eq_true h5
    · have := of_decide_eq_true h2
      rw [List.length_map] at this
      exact this
    · unfold Su203Neutral.asked at h4
      simp only [Bool.and_eq_true, List.all_eq_true] at h4
      have ha := h4.2 _ (List.mem_map_of_mem (List.mem_map_of_mem (List.mem_map_of_mem hc)))
      have hr := op_of (ok c hc)
      obtain ⟨o1, o2, o3⟩ := ok c hc
      by_cases er : hasRow c.op = true
      · rw [hr.1] at ha
        have e311 : c.op = 3 ∨ c.op = 11 := by
          unfold hasRow at er
          simpa using er
        obtain ⟨p, nums, row⟩ := c
        rcases e311 with e | e
        · have e : p = 3 := e
          subst e
          obtain ⟨a, rfl⟩ := len1 (l := nums) o2
          have ha : (Su203Neutral.natural (a : Int) 32 && (decide ((zints row).length ≤ 8) && (zints row).all fun z => Su203Neutral.natural z 32)) = true := ha
          simp only [Bool.and_eq_true, decide_eq_true_eq] at ha
          have := ha.2.1
          rw [List.length_map] at this
          exact this
        · have e : p = 11 := e
          subst e
          obtain rfl := len0 (l := nums) o2
          have ha : (decide ((zints row).length ≤ 8) && (zints row).all fun z => Su203Neutral.natural z 32) = true := ha
          simp only [Bool.and_eq_true, decide_eq_true_eq] at ha
          have := ha.1
          rw [List.length_map] at this
          exact this
      · rw [o3 (by simpa using er)]
        exact Nat.zero_le _
end FmS

set_option linter.all false
/-! A search in breadth, in the order of moves, first come first kept: it finds the least plan to each assignment that is reached. Nothing of the program. -/
namespace FmS
open Su203
abbrev Ent := List Nat × List Mv
def lexLt : List Mv → List Mv → Prop
  | a :: p, b :: q => lt2 a b ∨ (a = b ∧ lexLt p q)
  | _, _ => False
def slLt (p q : List Mv) : Prop := p.length < q.length ∨ (p.length = q.length ∧ lexLt p q)
def slLe (p q : List Mv) : Prop := p = q ∨ slLt p q
theorem lexLt_trans : ∀ {p q r : List Mv}, lexLt p q → lexLt q r → lexLt p r
  | a :: p, b :: q, c :: r, h1, h2 => by
    rcases h1 with h1 | ⟨e1, h1⟩
    · rcases h2 with h2 | ⟨e2, h2⟩
      · exact .inl (lt2_trans h1 h2)
      · subst e2
        exact .inl h1
    · subst e1
      rcases h2 with h2 | ⟨e2, h2⟩
      · exact .inl h2
      · exact .inr ⟨e2, lexLt_trans h1 h2⟩
  | [], _, _, h, _ => (show False from h).elim
  | _ :: _, [], _, h, _ => (show False from h).elim
  | _ :: _, _ :: _, [], _, h => (show False from h).elim
theorem lexLt_le : ∀ {p q : List Mv}, lexLt p q → lexLe p q
  | a :: p, b :: q, h => by
    rcases h with h | ⟨e, h⟩
    · exact .inl h
    · exact .inr ⟨e, lexLt_le h⟩
  | [], _, h => trivial
  | _ :: _, [], h => (show False from h).elim
theorem lexLt_app : ∀ {p q : List Mv} (m m' : Mv), lexLt p q → lexLt (p ++ [m]) (q ++ [m'])
  | a :: p, b :: q, m, m', h => by
    rcases h with h | ⟨e, h⟩
    · exact .inl h
    · exact .inr ⟨e, lexLt_app m m' h⟩
  | [], _, _, _, h => (show False from h).elim
  | _ :: _, [], _, _, h => (show False from h).elim
theorem lexLt_last {m m' : Mv} (h : lt2 m m') : ∀ (p : List Mv), lexLt (p ++ [m]) (p ++ [m'])
  | [] => .inl h
  | _ :: p => .inr ⟨rfl, lexLt_last h p⟩
theorem slLt_trans {p q r : List Mv} (h1 : slLt p q) (h2 : slLt q r) : slLt p r := by
  rcases h1 with h1 | ⟨e1, h1⟩
  · rcases h2 with h2 | ⟨e2, h2⟩
    · exact .inl (Nat.lt_trans h1 h2)
    · exact .inl (by omega)
  · rcases h2 with h2 | ⟨e2, h2⟩
    · exact .inl (by omega)
    · exact .inr ⟨e1.trans e2, lexLt_trans h1 h2⟩
theorem slLe_trans {p q r : List Mv} (h1 : slLe p q) (h2 : slLe q r) : slLe p r := by
  rcases h1 with rfl | h1
  · exact h2
  · rcases h2 with rfl | h2
    · exact .inr h1
    · exact .inr (slLt_trans h1 h2)
theorem slLt_app {p q : List Mv} (m m' : Mv) (h : slLt p q) : slLt (p ++ [m]) (q ++ [m']) := by
  rcases h with h | ⟨e, h⟩
  · exact .inl (by rw [List.length_append, List.length_append]; exact Nat.add_lt_add_right h _)
  · exact .inr ⟨by rw [List.length_append, List.length_append, e]; rfl, lexLt_app m m' h⟩
theorem slLe_app {p q : List Mv} (m : Mv) (h : slLe p q) : slLe (p ++ [m]) (q ++ [m]) := by
  rcases h with rfl | h
  · exact .inl rfl
  · exact .inr (slLt_app m m h)
theorem slLt_last {m m' : Mv} (h : lt2 m m') (p : List Mv) : slLt (p ++ [m]) (p ++ [m']) := .inr ⟨by rw [List.length_append, List.length_append]; rfl, lexLt_last h p⟩
theorem slLt_nil (p : List Mv) (m : Mv) : slLt [] (p ++ [m]) := .inl (by rw [List.length_append]; exact Nat.succ_pos _)
theorem slLe_nil (p : List Mv) : slLe [] p := by
  cases p with
  | nil => exact .inl rfl
  | cons a p => exact .inr (.inl (Nat.succ_pos _))
theorem slLe_len {p q : List Mv} (h : slLe p q) : p.length ≤ q.length := by
  rcases h with rfl | h | ⟨e, _⟩
  · exact Nat.le_refl _
  · exact Nat.le_of_lt h
  · exact Nat.le_of_eq e
theorem slLe_lex {p q : List Mv} (h : slLe p q) (e : q.length = p.length) : lexLe p q := by
  rcases h with rfl | h | ⟨_, h⟩
  · exact lexLe_refl _
  · omega
  · exact lexLt_le h
/-! ### the search's state between two nodes -/
structure Bi (w : Network) (s0 : List Nat) (es : List Ent) (pos : Nat) : Prop where
  nodup : (es.map (·.1)).Nodup
  head : es[0]? = some (s0, [])
  valid : ∀ e ∈ es, Valid w s0 e.2 ∧ run s0 e.2 = e.1
  sorted : es.Pairwise fun a b => slLt a.2 b.2
  par : ∀ e ∈ es, e.2 = [] ∨ ∃ (i : Nat) (b : Ent) (m : Mv), i < pos ∧ es[i]? = some b ∧ e.2 = b.2 ++ [m]
  closed : ∀ (i : Nat) (b : Ent), i < pos → es[i]? = some b → ∀ m ∈ w.moves b.1, ∃ e ∈ es, e.1 = applyMove b.1 m ∧ slLe e.2 (b.2 ++ [m])
  len : ∀ (i : Nat) (e : Ent), es[i]? = some e → e.2.length ≤ i
/-- .. within the node b at pos: the moves of dn are done, those of rs are not -/
structure Bm (w : Network) (s0 : List Nat) (es : List Ent) (pos : Nat) (b : Ent) (dn rs : List Mv) : Prop where
  nodup : (es.map (·.1)).Nodup
  head : es[0]? = some (s0, [])
  valid : ∀ e ∈ es, Valid w s0 e.2 ∧ run s0 e.2 = e.1
  sorted : es.Pairwise fun a b => slLt a.2 b.2
  at_ : es[pos]? = some b
  split : w.moves b.1 = dn ++ rs
  par : ∀ e ∈ es, e.2 = [] ∨ (∃ (i : Nat) (c : Ent) (m : Mv), i < pos ∧ es[i]? = some c ∧ e.2 = c.2 ++ [m]) ∨ ∃ m ∈ dn, e.2 = b.2 ++ [m]
  closed : ∀ (i : Nat) (c : Ent), i < pos → es[i]? = some c → ∀ m ∈ w.moves c.1, ∃ e ∈ es, e.1 = applyMove c.1 m ∧ slLe e.2 (c.2 ++ [m])
  here : ∀ m ∈ dn, ∃ e ∈ es, e.1 = applyMove b.1 m ∧ slLe e.2 (b.2 ++ [m])
  len : ∀ (i : Nat) (e : Ent), es[i]? = some e → e.2.length ≤ i
section
variable {w : Network} {s0 : List Nat} {es : List Ent} {pos : Nat} {b : Ent} {dn rs : List Mv} {m : Mv}
theorem bi_start (w : Network) (s0 : List Nat) : Bi w s0 [(s0, [])] 0 := by
  refine ⟨by simp, rfl, fun e he => ?_, by simp, fun e he => ?_, fun i b hi => absurd hi (Nat.not_lt_zero _), fun i e he => ?_⟩
  · rw [List.mem_singleton.mp he]
    exact ⟨trivial, rfl⟩
  · rw [List.mem_singleton.mp he]
    exact .inl rfl
  · have hm := List.mem_of_getElem? he
    rw [List.mem_singleton.mp hm]
    exact Nat.zero_le _
theorem Bi.enter (h : Bi w s0 es pos) (e : es[pos]? = some b) : Bm w s0 es pos b [] (w.moves b.1) := by
  refine ⟨h.nodup, h.head, h.valid, h.sorted, e, rfl, fun e he => ?_, h.closed, fun m hm => (List.not_mem_nil hm).elim, h.len⟩
  rcases h.par e he with z | z
  · exact .inl z
  · exact .inr (.inl z)
theorem Bm.leave (h : Bm w s0 es pos b dn []) : Bi w s0 es (pos + 1) := by
  have hs := h.split
  rw [List.append_nil] at hs
  refine ⟨h.nodup, h.head, h.valid, h.sorted, fun e he => ?_, fun i c hi hc => ?_, h.len⟩
  · rcases h.par e he with z | ⟨i, c, m, hi, hc, e⟩ | ⟨m, hm, e⟩
    · exact .inl z
    · exact .inr ⟨i, c, m, Nat.lt_succ_of_lt hi, hc, e⟩
    · exact .inr ⟨pos, b, m, Nat.lt_succ_self _, h.at_, e⟩
  · rcases Nat.lt_succ_iff_lt_or_eq.mp hi with q | q
    · exact h.closed i c q hc
    · subst q
      have e : b = c := Option.some.inj (h.at_.symm.trans hc)
      subst e
      rw [hs]
      exact h.here
theorem Bm.bound (h : Bm w s0 es pos b dn (m :: rs)) : ∀ e ∈ es, slLt e.2 (b.2 ++ [m]) := fun e he => by
  rcases h.par e he with z | ⟨i, c, m', hi, hc, z⟩ | ⟨m', hm, z⟩
  · rw [z]
    exact slLt_nil _ _
  · rw [z]
    refine slLt_app _ _ ?_
    obtain ⟨li, ei⟩ := List.getElem?_eq_some_iff.mp hc
    obtain ⟨lp, ep⟩ := List.getElem?_eq_some_iff.mp h.at_
    have := List.pairwise_iff_getElem.mp h.sorted i pos li lp hi
    rw [ei, ep] at this
    exact this
  · rw [z]
    refine slLt_last ?_ _
    have := moves_sorted w b.1
    rw [h.split, List.pairwise_append] at this
    exact this.2.2 m' hm m (.head _)
theorem Bm.skip (h : Bm w s0 es pos b dn (m :: rs)) (hm : applyMove b.1 m ∈ es.map (·.1)) : Bm w s0 es pos b (dn ++ [m]) rs := by
  refine ⟨h.nodup, h.head, h.valid, h.sorted, h.at_, by rw [h.split, List.append_assoc]; rfl, fun e he => ?_, h.closed, fun m' hm' => ?_, h.len⟩
  · rcases h.par e he with z | z | ⟨m', hm', z⟩
    · exact .inl z
    · exact .inr (.inl z)
    · exact .inr (.inr ⟨m', List.mem_append_left _ hm', z⟩)
  · rcases List.mem_append.mp hm' with z | z
    · exact h.here m' z
    · rw [List.mem_singleton.mp z]
      obtain ⟨e, he, ee⟩ := List.mem_map.mp hm
      exact ⟨e, he, ee, .inr (h.bound e he)⟩
theorem get_app {es : List Ent} {i : Nat} {c x : Ent} (h : es[i]? = some c) : (es ++ [x])[i]? = some c := by
  rw [List.getElem?_append_left (List.getElem?_eq_some_iff.mp h).1]
  exact h
theorem Bm.add (h : Bm w s0 es pos b dn (m :: rs)) (hm : applyMove b.1 m ∉ es.map (·.1)) : Bm w s0 (es ++ [(applyMove b.1 m, b.2 ++ [m])]) pos b (dn ++ [m]) rs := by
  have hb := h.valid b (List.mem_of_getElem? h.at_)
  have hmv : m ∈ w.moves b.1 := by rw [h.split]; exact List.mem_append_right _ (.head _)
  refine ⟨?_, get_app h.head, fun e he => ?_, ?_, get_app h.at_, by rw [h.split, List.append_assoc]; rfl, fun e he => ?_, fun i c hi hc m' hm' => ?_, fun m' hm' => ?_, fun i e he => ?_⟩
  · rw [List.map_append, List.nodup_append]
    refine ⟨h.nodup, by simp, fun x hx y hy z => ?_⟩
    have hy' : y = applyMove b.1 m := by simpa using hy
    rw [z, hy'] at hx
    exact hm hx
  · rcases List.mem_append.mp he with he | he
    · exact h.valid e he
    · rw [List.mem_singleton.mp he]
      refine ⟨valid_append.mpr ⟨hb.1, ?_, trivial⟩, ?_⟩
      · rw [hb.2]
        exact hmv
      · show run s0 (b.2 ++ [m]) = _
        rw [run_append, hb.2]
        rfl
  · rw [List.pairwise_append]
    refine ⟨h.sorted, by simp, fun e he x hx => ?_⟩
    rw [List.mem_singleton.mp hx]
    exact h.bound e he
  · rcases List.mem_append.mp he with he | he
    · rcases h.par e he with z | ⟨i, c, m', hi, hc, z⟩ | ⟨m', hm', z⟩
      · exact .inl z
      · exact .inr (.inl ⟨i, c, m', hi, get_app hc, z⟩)
      · exact .inr (.inr ⟨m', List.mem_append_left _ hm', z⟩)
    · rw [List.mem_singleton.mp he]
      exact .inr (.inr ⟨m, List.mem_append_right _ (.head _), rfl⟩)
  · have lp := (List.getElem?_eq_some_iff.mp h.at_).1
    rw [List.getElem?_append_left (Nat.lt_trans hi lp)] at hc
    obtain ⟨e, he, ee⟩ := h.closed i c hi hc m' hm'
    exact ⟨e, List.mem_append_left _ he, ee⟩
  · rcases List.mem_append.mp hm' with z | z
    · obtain ⟨e, he, ee⟩ := h.here m' z
      exact ⟨e, List.mem_append_left _ he, ee⟩
    · rw [List.mem_singleton.mp z]
      exact ⟨_, List.mem_append_right _ (.head _), rfl, .inl rfl⟩
  · by_cases hi : i < es.length
    · rw [List.getElem?_append_left hi] at he
      exact h.len i e he
    · rw [List.getElem?_append_right (Nat.not_lt.mp hi)] at he
      have h2 := List.mem_of_getElem? he
      rw [List.mem_singleton.mp h2]
      have lp := (List.getElem?_eq_some_iff.mp h.at_).1
      have := h.len pos b h.at_
      show (b.2 ++ [m]).length ≤ i
      rw [List.length_append]
      show b.2.length + 1 ≤ i
      omega
end
/-! ### at the end -/
structure Bfs (w : Network) (s0 : List Nat) (es : List Ent) : Prop where
  nodup : (es.map (·.1)).Nodup
  head : es[0]? = some (s0, [])
  valid : ∀ e ∈ es, Valid w s0 e.2 ∧ run s0 e.2 = e.1
  sorted : es.Pairwise fun a b => slLt a.2 b.2
  closed : ∀ b ∈ es, ∀ m ∈ w.moves b.1, ∃ e ∈ es, e.1 = applyMove b.1 m ∧ slLe e.2 (b.2 ++ [m])
theorem Bi.done {w : Network} {s0 : List Nat} {es : List Ent} (h : Bi w s0 es es.length) : Bfs w s0 es :=
  ⟨h.nodup, h.head, h.valid, h.sorted, fun b hb m hm => by
    obtain ⟨i, hi⟩ := List.mem_iff_getElem?.mp hb
    exact h.closed i b (List.getElem?_eq_some_iff.mp hi).1 hi m hm⟩
/-- how many there are at most -/
theorem Bi.few {w : Network} (o : SpOk w) {s0 : List Nat} (c : Cand w s0) {es : List Ent} {pos : Nat} (h : Bi w s0 es pos) : es.length ≤ w.feasibleAssignments.length := by
  rw [← List.length_map (f := fun e : Ent => e.1)]
  refine List.Nodup.length_le_of_subset h.nodup fun x hx => ?_
  obtain ⟨e, he, rfl⟩ := List.mem_map.mp hx
  obtain ⟨v, r⟩ := h.valid e he
  rw [← r]
  exact (mem_feasible o).mpr (valid_cand c v)
theorem Bm.few {w : Network} (o : SpOk w) {s0 : List Nat} (c : Cand w s0) {es : List Ent} {pos : Nat} {b : Ent} {dn rs : List Mv} (h : Bm w s0 es pos b dn rs) : es.length ≤ w.feasibleAssignments.length := by
  rw [← List.length_map (f := fun e : Ent => e.1)]
  refine List.Nodup.length_le_of_subset h.nodup fun x hx => ?_
  obtain ⟨e, he, rfl⟩ := List.mem_map.mp hx
  obtain ⟨v, r⟩ := h.valid e he
  rw [← r]
  exact (mem_feasible o).mpr (valid_cand c v)
section
variable {w : Network} {s0 : List Nat} {es : List Ent}
theorem Bfs.least (h : Bfs w s0 es) : ∀ (n : Nat) (q : List Mv), q.length = n → Valid w s0 q → ∃ e ∈ es, e.1 = run s0 q ∧ slLe e.2 q
  | 0, q, hn, v => by
    have e : q = [] := List.length_eq_zero_iff.mp hn
    subst e
    exact ⟨_, List.mem_of_getElem? h.head, rfl, .inl rfl⟩
  | n + 1, q, hn, v => by
    have hne : q ≠ [] := fun z => by rw [z] at hn; cases hn
    obtain ⟨q', m, rfl⟩ : ∃ q' m, q = q' ++ [m] := ⟨q.dropLast, q.getLast hne, (List.dropLast_concat_getLast hne).symm⟩
    obtain ⟨v1, v2, _⟩ := valid_append.mp v
    rw [List.length_append] at hn
    obtain ⟨b, hb, eb, lb⟩ := Bfs.least h n q' (Nat.succ.inj hn) v1
    rw [← eb] at v2
    obtain ⟨e, he, ee, le⟩ := h.closed b hb m v2
    refine ⟨e, he, ?_, slLe_trans le (slLe_app m lb)⟩
    rw [ee, run_append, ← eb]
    rfl
theorem Bfs.keys (h : Bfs w s0 es) (t : List Nat) : t ∈ es.map (·.1) ↔ Reach w s0 t := by
  constructor
  · intro ht
    obtain ⟨e, he, rfl⟩ := List.mem_map.mp ht
    obtain ⟨v, r⟩ := h.valid e he
    exact ⟨e.2, v, r⟩
  · rintro ⟨q, v, rfl⟩
    obtain ⟨e, he, ee, _⟩ := h.least _ q rfl v
    exact List.mem_map.mpr ⟨e, he, ee⟩
theorem pw_le {es : List Ent} (h : es.Pairwise fun a b => slLt a.2 b.2) {i j : Nat} {a b : Ent} (hi : es[i]? = some a) (hj : es[j]? = some b) (hij : i ≤ j) : slLe a.2 b.2 := by
  obtain ⟨li, ei⟩ := List.getElem?_eq_some_iff.mp hi
  obtain ⟨lj, ej⟩ := List.getElem?_eq_some_iff.mp hj
  rcases Nat.lt_or_eq_of_le hij with q | q
  · have := List.pairwise_iff_getElem.mp h i j li lj q
    rw [ei, ej] at this
    exact .inr this
  · subst q
    rw [← ei, ← ej]
    exact .inl rfl
/-- the first entry that is a target tells the best plan -/
theorem Bfs.best (h : Bfs w s0 es) {T : List (List Nat)} {i : Nat} {e : Ent} (hi : es[i]? = some e) (ht : e.1 ∈ T) (no : ∀ (j : Nat) (b : Ent), j < i → es[j]? = some b → b.1 ∉ T) : Best w T s0 e.2 := by
  obtain ⟨v, r⟩ := h.valid e (List.mem_of_getElem? hi)
  have le : ∀ q, Valid w s0 q → run s0 q ∈ T → slLe e.2 q := fun q vq tq => by
    obtain ⟨b, hb, eb, lb⟩ := h.least _ q rfl vq
    obtain ⟨j, hj⟩ := List.mem_iff_getElem?.mp hb
    have hij : i ≤ j := by
      rcases Nat.lt_or_ge j i with z | z
      · exact absurd (by rw [eb]; exact tq) (no j b z hj)
      · exact z
    exact slLe_trans (pw_le h.sorted hi hj hij) lb
  exact ⟨v, by rw [r]; exact ht, fun q vq tq => slLe_len (le q vq tq), fun q vq tq el => slLe_lex (le q vq tq) el⟩
theorem Bfs.none (h : Bfs w s0 es) {T : List (List Nat)} (no : ∀ b ∈ es, b.1 ∉ T) : ∀ q, Valid w s0 q → run s0 q ∉ T := fun q vq tq => by
  obtain ⟨b, hb, eb, _⟩ := h.least _ q rfl vq
  exact no b hb (by rw [eb]; exact tq)
end
/-! ### the candidates, grown from the left -/
theorem enum_snoc (w : Network) (f : Nat) (s : List Nat) : ∀ (l : List Nat), enumerateAssignments w (l ++ [f]) s = (enumerateAssignments w l s).flatMap fun r => (opts w s f).map fun p => r ++ [p]
  | [] => by
    show enumerateAssignments w [f] s = _
    rw [enum_cons]
    show ((opts w s f).flatMap fun p => [[p]]) = ([[]] : List (List Nat)).flatMap _
    rw [List.flatMap_cons, List.flatMap_nil, List.append_nil]
    induction opts w s f with
    | nil => rfl
    | cons a l ih =>
      rw [List.flatMap_cons, ih]
      rfl
  | g :: l => by
    show enumerateAssignments w (g :: (l ++ [f])) s = _
    rw [enum_cons, enum_cons, enum_snoc w f s l, List.flatMap_assoc]
    refine congrArg (fun z => (opts w s g).flatMap z) (funext fun p => ?_)
    rw [List.flatMap_map, List.map_flatMap]
    refine congrArg (fun z => (enumerateAssignments w l s).flatMap z) (funext fun r => ?_)
    rw [List.map_map]
    rfl
theorem opts_len {w : Network} {s : List Nat} {f : Nat} (h : (w.flow f).pathLinks.length ≤ 3) : (opts w s f).length ≤ 3 := by
  unfold opts
  split
  · show 1 ≤ 3
    decide
  · rw [List.length_map, List.length_range]
    exact h
theorem flat_len {α β : Type} (g : α → List β) (k : Nat) : ∀ (l : List α), (∀ x ∈ l, (g x).length ≤ k) → (l.flatMap g).length ≤ l.length * k
  | [], _ => by simp
  | a :: l, h => by
    have h1 := flat_len g k l fun x hx => h x (.tail _ hx)
    have h2 := h a (.head _)
    rw [List.flatMap_cons, List.length_append, List.length_cons, Nat.succ_mul]
    omega
theorem enum_len {w : Network} {s : List Nat} : ∀ (l : List Nat), (∀ f ∈ l, (w.flow f).pathLinks.length ≤ 3) → (enumerateAssignments w l s).length ≤ 3 ^ l.length
  | [], _ => Nat.le_refl 1
  | f :: l, h => by
    have ih := enum_len (s := s) l fun g hg => h g (.tail _ hg)
    rw [enum_cons]
    have h1 := flat_len (fun p => (enumerateAssignments w l s).map fun r => p :: r) (3 ^ l.length) (opts w s f) fun p _ => by rw [List.length_map]; exact ih
    have h2 := opts_len (s := s) (h f (.head _))
    rw [List.length_cons, Nat.pow_succ, Nat.mul_comm (3 ^ l.length) 3]
    exact Nat.le_trans h1 (Nat.mul_le_mul_right _ h2)
theorem few_feasible {w : Network} (o : SpOk w) : w.feasibleAssignments.length ≤ 243 := by
  unfold Network.feasibleAssignments Network.flowIndices
  refine Nat.le_trans (List.length_filter_le _ _) ?_
  refine Nat.le_trans (enum_len _ fun f hf => (o.fs _ (flow_mem (List.mem_range.mp hf))).few) ?_
  rw [List.length_range]
  exact Nat.pow_le_pow_right (by decide) o.fl
theorem few_enum {w : Network} (o : SpOk w) {i : Nat} (hi : i ≤ w.flows.length) (s : List Nat) : (enumerateAssignments w (List.range i) s).length ≤ 243 := by
  refine Nat.le_trans (enum_len _ fun f hf => (o.fs _ (flow_mem (Nat.lt_of_lt_of_le (List.mem_range.mp hf) hi))).few) ?_
  rw [List.length_range]
  exact Nat.pow_le_pow_right (by decide) (Nat.le_trans hi o.fl)
end FmS

set_option Elab.async false
set_option linter.all false
set_option maxRecDepth 100000
set_option maxHeartbeats 4000000
/-! Walks over the hand layer, from the library's GoesN: zip of lists and tuples (two, three), a dict with tuple keys made on the way (keys, items). Nothing of the program. -/
namespace Fm
open PySem PySem.Spec PyProof.Rows L2 Evl
section
variable {P : Program} {w : World} {K : PySem.W.Frag}
/-- a walk that hands out new tuples, told turn by turn -/
theorem turn_new {tg : Expr} {J : It} {fp : List Addr} {it : Addr} {tn : Nat → Heap → Prop} (wr : List Addr) (mem : it ∈ fp) (sub : ∀ b ∈ wr, b ∈ fp)
    (obj : ∀ i h, tn i h → ∀ b ∈ fp, ∃ o, h.get? b = some o ∧ ∀ v, o.data ≠ .cell v)
    (keep : ∀ i h h', tn i h → (∀ b ∈ fp, ∀ o, h.get? b = some o → h'.get? b = some o) → tn i h')
    (go : ∀ (X : Cx), X.prog = P → X.w = w → X.K = K → X.A.handled = none → ∀ (i : Nat) (pins : List (Addr × Obj)) (s : Shared) (σ : L2.St) (H : Hp), Inv X pins σ H s → tn i s.heap → J.go i H →
      ∃ (f2 : List Addr) (n : Nat) (Y : Nat → Heap → Value → Heap → Prop) (S : Nat → Heap → Prop), GoesN P w X.A tg it f2 wr n Y S ∧ i < n ∧ S i s.heap ∧ (∀ h', S (i + 1) h' → tn (i + 1) h') ∧
        ∀ v h', Y i s.heap v h' → ∃ (T : Addr) (xs : List V) (us : List Value), v = .ref T ∧ s.heap.objs.size ≤ T ∧ xs.length ≤ sizeLine ∧ Vals xs us ∧ IsTup h' T us.toArray ∧ (H T = none → J.yld i H (.ref T) (upd H T (.tup xs))))
    (stop : ∀ (X : Cx), X.prog = P → X.w = w → X.K = K → X.A.handled = none → ∀ (i : Nat) (pins : List (Addr × Obj)) (s : Shared) (σ : L2.St) (H : Hp), Inv X pins σ H s → tn i s.heap → J.stop i H →
      ∃ (f2 : List Addr) (Y : Nat → Heap → Value → Heap → Prop) (S : Nat → Heap → Prop), GoesN P w X.A tg it f2 wr i Y S ∧ S i s.heap)
    (self : ∀ (A : Around) (i : Nat) (s : Shared) (Q : Value → Shared → Prop) (E : Value → Shared → Prop), tn i s.heap → Q (.ref it) s → wpAny (model P w) A (pyIter (.ref it)) Q E s) : Turn P w K tg J fp it tn where
  mem := mem
  obj := obj
  keep := keep
  self := self
  item := by
    intro X eP ew eK calm i pins s σ H E I fresh st ask
    obtain ⟨f2, n, Y, S, W, lt, at_, back, told⟩ := go X eP ew eK (I.ok.hd calm) i pins s σ H I st ask
    subst eP ew eK
    refine W.goes i s (fun u s2 => ∃ x H', Inv X pins σ H' s2 ∧ RelV x u ∧ J.yld i H x H' ∧ tn (i + 1) s2.heap ∧ ∀ b ∈ fp, H' b = none) E lt at_ fun v h' tk y st' kept _ => ?_
    obtain ⟨T, xs, us, rfl, high, small, rel, tup, yld⟩ := told v h' y
    have laid : ObjOk X.prog X.w (upd H T (.tup xs)) h' T (.tup xs) := ⟨small, us, rel, tup⟩
    refine ⟨.ref T, upd H T (.tup xs), I.turnedNew (t' := tk) (ch := wr) kept (fun b m => fresh b (sub b m)) high laid, rfl, yld (I.hok.fresh high), back h' st', fun b m => ?_⟩
    obtain ⟨o, there, _⟩ := obj i s.heap st b m
    rw [upd_ne (Nat.ne_of_lt (Nat.lt_of_lt_of_le (Heap.lt_size there) high))]
    exact (fresh b m).1
  done := by
    intro X eP ew eK calm i pins s σ H E I fresh st ask
    obtain ⟨f2, Y, S, W, at_⟩ := stop X eP ew eK (I.ok.hd calm) i pins s σ H I st ask
    subst eP ew eK
    exact W.stops s (fun s1 => Inv X pins σ H s1) E at_ fun h' tk kept _ => I.turnedL (t' := tk) (ch := wr) kept fun b m => fresh b (sub b m)
end
/-! ### a list or a tuple -/
def SqB (K : PySem.W.Frag) (k : Bool) (H : Hp) (a : Addr) (xs : List V) : Prop := match k with
  | false => SqL K H a xs
  | true => SqT K H a xs
def IterB (k : Bool) (h : Heap) (it l : Addr) (i : Nat) : Prop := match k with
  | false => h.IsListIter it l i
  | true => h.IsTupleIter it l i
def IsB (k : Bool) (h : Heap) (l : Addr) (us : Array Value) : Prop := match k with
  | false => h.IsList l us
  | true => h.IsTuple l us
def newIt (k : Bool) (l : Addr) : Obj := match k with
  | false => { cls := .type "list_iterator", data := .fields #[.ref l, .int 0 0] }
  | true => { cls := .type "tuple_iterator", data := .fields #[.ref l, .int 0 0] }
theorem draws_b {prog : Program} {w : World} {A : Around} (hh : A.handled = none) (k : Bool) (it l : Addr) (ne : l ≠ it) (us : Array Value) : Draws prog w A it [it, l] us.size (fun i v => us[i]? = some v) (fun i h => IterB k h it l i ∧ IsB k h l us) := by
  cases k
  · exact Draws.list hh it l ne us
  · exact Draws.tuple hh it l ne us
theorem begins_b (k : Bool) (l : Addr) (us : Array Value) : Begins (.ref l) (newIt k l) (fun h => IsB k h l us) := by
  cases k
  · exact begins_list l us
  · exact begins_tuple l us
theorem iterB_new {k : Bool} {h : Heap} {it l : Addr} (e : h.get? it = some (newIt k l)) : IterB k h it l 0 := by
  cases k
  · exact ⟨_, e, rfl, rfl⟩
  · exact ⟨_, e, rfl, rfl⟩
theorem IterB.obj {k : Bool} {h : Heap} {it l : Addr} {i : Nat} (e : IterB k h it l i) : ∃ o, h.get? it = some o ∧ ∀ v, o.data ≠ .cell v := by
  cases k
  · obtain ⟨o, there, _, d⟩ := e
    exact ⟨o, there, fun v z => by rw [d] at z; cases z⟩
  · obtain ⟨o, there, _, d⟩ := e
    exact ⟨o, there, fun v z => by rw [d] at z; cases z⟩
theorem IterB.to {k : Bool} {h h' : Heap} {it l : Addr} {i : Nat} (e : IterB k h it l i) (kept : ∀ o, h.get? it = some o → h'.get? it = some o) : IterB k h' it l i := by
  cases k
  · exact e.at kept
  · exact e.at kept
section
variable {X : Cx} {pins : List (Addr × Obj)} {σ : L2.St} {H : Hp} {s : Shared} {k : Bool} {a : Addr} {xs ys : List V}
theorem inv_b (I : Inv X pins σ H s) (h : SqB X.K k H a xs) : ∃ us : List Value, Vals xs us ∧ IsB k s.heap a us.toArray ∧ a < s.heap.objs.size := by
  cases k
  · obtain ⟨us, rel, p, _⟩ := I.list h
    exact ⟨us, rel, p.isList, p.lt⟩
  · obtain ⟨us, rel, p, _⟩ := I.tuple h
    exact ⟨us, rel, p, p.lt⟩
theorem inv_inj (I : Inv X pins σ H s) (h : SqB X.K k H a xs) (h' : SqB X.K k H a ys) : xs = ys := by
  cases k
  · exact I.list_inj h h'
  · exact I.tuple_inj h h'
end
theorem ex_b {K : PySem.W.Frag} {H H' : Hp} {k : Bool} {a : Addr} {xs : List V} (e : Ex H H') (h : SqB K k H a xs) : SqB K k H' a xs := by
  cases k
  · exact ex_l e h
  · exact ex_t e h
/-! ### zip of two -/
def Itz2 (K : PySem.W.Frag) (k1 k2 : Bool) (a b : Addr) : It :=
  ⟨fun i H => ∃ (xs ys : List V) (x y : V), SqB K k1 H a xs ∧ SqB K k2 H b ys ∧ xs[i]? = some x ∧ ys[i]? = some y,
    fun i H v H' => ∃ (T : Addr) (x y : V), v = .ref T ∧ H T = none ∧ H' = upd H T (.tup [x, y]) ∧ (∀ xs, SqB K k1 H a xs → xs[i]? = some x) ∧ ∀ ys, SqB K k2 H b ys → ys[i]? = some y,
    fun i H => ∃ xs ys : List V, SqB K k1 H a xs ∧ SqB K k2 H b ys ∧ i = min xs.length ys.length⟩
theorem get_size {us : List Value} {i : Nat} {u : Value} (h : us[i]? = some u) : i < us.toArray.size := by
  rw [List.size_toArray]
  exact (List.getElem?_eq_some_iff.mp h).1
theorem turn_z2 {P : Program} {w : World} {K : PySem.W.Frag} {elts : List Expr} {kk : Nat} {tpos : Pos} {k1 k2 : Bool} {a b z TI TO i1 i2 : Addr} (S : ZipSep2 z TI TO i1 i2 [i1, a] [i2, b]) (na : a ≠ i1) (nb : b ≠ i2) :
    Turn P w K (.Tuple elts kk tpos) (Itz2 K k1 k2 a b) [z, TI, TO, i1, i2] z (fun i h => IsZip h z TI TO .none ∧ IsTupOf2 h TI (.ref i1) (.ref i2) ∧ (∃ p q, IsTupOf2 h TO p q) ∧ IterB k1 h i1 a i ∧ IterB k2 h i2 b i) := by
  refine turn_new [z, TO, i1, i2] (by simp) (fun c m => by
    simp only [List.mem_cons, List.not_mem_nil, or_false] at m ⊢
    rcases m with e | e | e | e <;> simp [e]) (fun i h st c m => ?_) (fun i h h' st kept => ?_) ?_ ?_ (fun A i s Q E st h => wpAny_pyIter_zip st.1 h)
  · obtain ⟨ez, eI, ⟨p, q, eO⟩, e1, e2⟩ := st
    have m' : c = z ∨ c = TI ∨ c = TO ∨ c = i1 ∨ c = i2 := by simpa using m
    rcases m' with rfl | rfl | rfl | rfl | rfl
    · exact ⟨_, ez, fun v q => nomatch q⟩
    · exact ⟨_, eI, fun v q => nomatch q⟩
    · exact ⟨_, eO, fun v q => nomatch q⟩
    · exact e1.obj
    · exact e2.obj
  · obtain ⟨ez, eI, ⟨p, q, eO⟩, e1, e2⟩ := st
    exact ⟨kept z (by simp) _ ez, kept TI (by simp) _ eI, ⟨p, q, kept TO (by simp) _ eO⟩, e1.to (kept i1 (by simp)), e2.to (kept i2 (by simp))⟩
  · intro X eP ew eK hh i pins s σ H I st ask
    subst eP ew eK
    obtain ⟨xs, ys, x, y, qa, qb, gx, gy⟩ := ask
    obtain ⟨ez, eI, eO, e1, e2⟩ := st
    obtain ⟨us, ru, la, _⟩ := inv_b I qa
    obtain ⟨vs, rv, lb, _⟩ := inv_b I qb
    obtain ⟨u, hu, rxu⟩ := ru.get gx
    obtain ⟨v, hv, ryv⟩ := rv.get gy
    have l1 := get_size hu
    have l2 := get_size hv
    refine ⟨_, _, _, _, GoesN.zip2 S (draws_b (A := X.A.in1) hh k1 i1 a na us.toArray) (draws_b (A := X.A.in1) hh k2 i2 b nb vs.toArray), Nat.lt_min.mpr ⟨l1, l2⟩, ⟨ez, eI, eO, ⟨e1, la⟩, e2, lb⟩, fun h' st' => ⟨st'.1, st'.2.1, st'.2.2.1, st'.2.2.2.1.1, st'.2.2.2.2.1⟩, fun r h' y' => ?_⟩
    obtain ⟨T, u', v', er, high, hu', hv', tup⟩ := y'
    rw [List.getElem?_toArray] at hu' hv'
    have eu : u' = u := Option.some.inj (hu'.symm.trans hu)
    have ev : v' = v := Option.some.inj (hv'.symm.trans hv)
    rw [eu, ev] at tup
    refine ⟨T, [x, y], [u, v], er, high, by show 2 ≤ sizeLine; decide, .cons rxu (.cons ryv .nil), tup, fun fr => ⟨T, x, y, rfl, fr, rfl, fun l hl => ?_, fun l hl => ?_⟩⟩
    · rw [inv_inj I hl qa]
      exact gx
    · rw [inv_inj I hl qb]
      exact gy
  · intro X eP ew eK hh i pins s σ H I st ask
    subst eP ew eK
    obtain ⟨xs, ys, qa, qb, ei⟩ := ask
    obtain ⟨ez, eI, eO, e1, e2⟩ := st
    obtain ⟨us, ru, la, _⟩ := inv_b I qa
    obtain ⟨vs, rv, lb, _⟩ := inv_b I qb
    have n1 := ru.length
    have n2 := rv.length
    have en : min us.toArray.size vs.toArray.size = i := by rw [List.size_toArray, List.size_toArray, ei, n1, n2]
    have W := GoesN.zip2 (elts := elts) (x1 := kk) (pos := tpos) (prog := X.prog) (w := X.w) (A := X.A) S (draws_b (A := X.A.in1) hh k1 i1 a na us.toArray) (draws_b (A := X.A.in1) hh k2 i2 b nb vs.toArray)
    rw [en] at W
    exact ⟨_, _, _, W, ez, eI, eO, ⟨e1, la⟩, e2, lb⟩
/-- zip(x, y), each a list or a tuple -/
def iZip2 (K : PySem.W.Frag) (ta : TA) : TI := fun σ H R => ta σ H fun vs H1 => ∃ (k1 k2 : Bool) (a b : Addr) (xs ys : List V), vs = [.ref a, .ref b] ∧ SqB K k1 H1 a xs ∧ SqB K k2 H1 b ys ∧ R (Itz2 K k1 k2 a b) H1
theorem pi_zip2 {X : Cx} {e e2 : Expr} {ta : TA} {p pos tpos : Pos} {elts : List Expr} {kk : Nat} (gl : Gl X "zip") (nl : X.mg "zip" = none) (ha : PA X [e, e2] ta)
    (s1 : starEach [e, e2] X.env = (false, eval e X.env) :: starEach [e2] X.env := by rfl) (s2 : (backTo pos (starEach [e2] X.env)).any (·.1) = false := by rfl) :
    PI X (.Tuple elts kk tpos) (.Call (.Name "zip" p) [e, e2] [] pos) (iZip2 X.K ta) := by
  constructor
  intro pins s σ H R I ask
  refine Call_ (ld_blt I gl nl PyProof.Rows.boot_zip (PyProof.Rows.callWith_type1 (thn (ha.run pos pins s σ H _ I ask) fun us t ⟨vs, H1, I1, rel, k1, k2, a, b, xs, ys, ev, qa, qb, go⟩ => ?_) s1 s2))
  subst ev
  cases rel with
  | cons r rr => cases rr with
    | cons r' rr =>
      cases rr
      cases r
      cases r'
      obtain ⟨us, ru, la, ta⟩ := inv_b I1 qa
      obtain ⟨vs, rv, lb, tb⟩ := inv_b I1 qb
      refine zip_begins2 (begins_b k1 a us.toArray) (begins_b k2 b vs.toArray) la lb fun h' ez eI eO e1 e2 _ kept => wpAny_pyIter_zip ez ?_
      have I2 : Inv X pins σ H1 { t with heap := h' } := I1.kept (t' := t.toks) kept
      refine ⟨t.heap.objs.size + 4, [t.heap.objs.size + 4, t.heap.objs.size + 2, t.heap.objs.size + 3, t.heap.objs.size, t.heap.objs.size + 1], _, Itz2 X.K k1 k2 a b, H1, rfl, I2,
        turn_z2 (zip_sep2 (fun c m => by rw [List.mem_singleton.mp m]; exact ta) (fun c m => by rw [List.mem_singleton.mp m]; exact tb)) (Nat.ne_of_lt ta) (Nat.ne_of_lt (Nat.lt_succ_of_lt tb)), ⟨ez, eI, ⟨_, _, eO⟩, iterB_new e1, iterB_new e2⟩, fun c m => ?_, go⟩
      have high : t.heap.objs.size ≤ c := by
        have m' : c = t.heap.objs.size + 4 ∨ c = t.heap.objs.size + 2 ∨ c = t.heap.objs.size + 3 ∨ c = t.heap.objs.size ∨ c = t.heap.objs.size + 1 := by simpa using m
        rcases m' with z | z | z | z | z <;> rw [z] <;> first | exact Nat.le_refl _ | exact Nat.le_add_right _ _
      exact I1.fpOk high (I1.hok.fresh high)
/-! ### zip of three -/
def Itz3 (K : PySem.W.Frag) (k1 k2 k3 : Bool) (a b c : Addr) : It :=
  ⟨fun i H => ∃ (xs ys zs : List V) (x y z : V), SqB K k1 H a xs ∧ SqB K k2 H b ys ∧ SqB K k3 H c zs ∧ xs[i]? = some x ∧ ys[i]? = some y ∧ zs[i]? = some z,
    fun i H v H' => ∃ (T : Addr) (x y z : V), v = .ref T ∧ H T = none ∧ H' = upd H T (.tup [x, y, z]) ∧ (∀ xs, SqB K k1 H a xs → xs[i]? = some x) ∧ (∀ ys, SqB K k2 H b ys → ys[i]? = some y) ∧ ∀ zs, SqB K k3 H c zs → zs[i]? = some z,
    fun i H => ∃ xs ys zs : List V, SqB K k1 H a xs ∧ SqB K k2 H b ys ∧ SqB K k3 H c zs ∧ i = min (min xs.length ys.length) zs.length⟩
theorem turn_z3 {P : Program} {w : World} {K : PySem.W.Frag} {elts : List Expr} {kk : Nat} {tpos : Pos} {k1 k2 k3 : Bool} {a b c z TI TO i1 i2 i3 : Addr} (S : ZipSep3 z TI TO i1 i2 i3 [i1, a] [i2, b] [i3, c]) (na : a ≠ i1) (nb : b ≠ i2) (nc : c ≠ i3) :
    Turn P w K (.Tuple elts kk tpos) (Itz3 K k1 k2 k3 a b c) [z, TI, TO, i1, i2, i3] z (fun i h => IsZip h z TI TO .none ∧ IsTupOf3 h TI (.ref i1) (.ref i2) (.ref i3) ∧ (∃ p q r, IsTupOf3 h TO p q r) ∧ IterB k1 h i1 a i ∧ IterB k2 h i2 b i ∧ IterB k3 h i3 c i) := by
  refine turn_new [z, TO, i1, i2, i3] (by simp) (fun d m => by
    simp only [List.mem_cons, List.not_mem_nil, or_false] at m ⊢
    rcases m with e | e | e | e | e <;> simp [e]) (fun i h st d m => ?_) (fun i h h' st kept => ?_) ?_ ?_ (fun A i s Q E st h => wpAny_pyIter_zip st.1 h)
  · obtain ⟨ez, eI, ⟨p, q, r, eO⟩, e1, e2, e3⟩ := st
    have m' : d = z ∨ d = TI ∨ d = TO ∨ d = i1 ∨ d = i2 ∨ d = i3 := by simpa using m
    rcases m' with rfl | rfl | rfl | rfl | rfl | rfl
    · exact ⟨_, ez, fun v q => nomatch q⟩
    · exact ⟨_, eI, fun v q => nomatch q⟩
    · exact ⟨_, eO, fun v q => nomatch q⟩
    · exact e1.obj
    · exact e2.obj
    · exact e3.obj
  · obtain ⟨ez, eI, ⟨p, q, r, eO⟩, e1, e2, e3⟩ := st
    exact ⟨kept z (by simp) _ ez, kept TI (by simp) _ eI, ⟨p, q, r, kept TO (by simp) _ eO⟩, e1.to (kept i1 (by simp)), e2.to (kept i2 (by simp)), e3.to (kept i3 (by simp))⟩
  · intro X eP ew eK hh i pins s σ H I st ask
    subst eP ew eK
    obtain ⟨xs, ys, zs, x, y, v, qa, qb, qc, gx, gy, gz⟩ := ask
    obtain ⟨ez, eI, eO, e1, e2, e3⟩ := st
    obtain ⟨us, ru, la, _⟩ := inv_b I qa
    obtain ⟨vs, rv, lb, _⟩ := inv_b I qb
    obtain ⟨ws, rw', lc, _⟩ := inv_b I qc
    obtain ⟨u1, h1, r1⟩ := ru.get gx
    obtain ⟨u2, h2, r2⟩ := rv.get gy
    obtain ⟨u3, h3, r3⟩ := rw'.get gz
    have l1 := get_size h1
    have l2 := get_size h2
    have l3 := get_size h3
    refine ⟨_, _, _, _, GoesN.zip3 S (draws_b (A := X.A.in1) hh k1 i1 a na us.toArray) (draws_b (A := X.A.in1) hh k2 i2 b nb vs.toArray) (draws_b (A := X.A.in1) hh k3 i3 c nc ws.toArray), Nat.lt_min.mpr ⟨Nat.lt_min.mpr ⟨l1, l2⟩, l3⟩, ⟨ez, eI, eO, ⟨e1, la⟩, ⟨e2, lb⟩, e3, lc⟩,
      fun h' st' => ⟨st'.1, st'.2.1, st'.2.2.1, st'.2.2.2.1.1, st'.2.2.2.2.1.1, st'.2.2.2.2.2.1⟩, fun r h' y' => ?_⟩
    obtain ⟨T, v1, v2, v3, er, high, g1, g2, g3, tup⟩ := y'
    rw [List.getElem?_toArray] at g1 g2 g3
    have q1 : v1 = u1 := Option.some.inj (g1.symm.trans h1)
    have q2 : v2 = u2 := Option.some.inj (g2.symm.trans h2)
    have q3 : v3 = u3 := Option.some.inj (g3.symm.trans h3)
    rw [q1, q2, q3] at tup
    refine ⟨T, [x, y, v], [u1, u2, u3], er, high, by show 3 ≤ sizeLine; decide, .cons r1 (.cons r2 (.cons r3 .nil)), tup, fun fr => ⟨T, x, y, v, rfl, fr, rfl, fun l hl => ?_, fun l hl => ?_, fun l hl => ?_⟩⟩
    · rw [inv_inj I hl qa]
      exact gx
    · rw [inv_inj I hl qb]
      exact gy
    · rw [inv_inj I hl qc]
      exact gz
  · intro X eP ew eK hh i pins s σ H I st ask
    subst eP ew eK
    obtain ⟨xs, ys, zs, qa, qb, qc, ei⟩ := ask
    obtain ⟨ez, eI, eO, e1, e2, e3⟩ := st
    obtain ⟨us, ru, la, _⟩ := inv_b I qa
    obtain ⟨vs, rv, lb, _⟩ := inv_b I qb
    obtain ⟨ws, rw', lc, _⟩ := inv_b I qc
    have n1 := ru.length
    have n2 := rv.length
    have n3 := rw'.length
    have en : min (min us.toArray.size vs.toArray.size) ws.toArray.size = i := by rw [List.size_toArray, List.size_toArray, List.size_toArray, ei, n1, n2, n3]
    have W := GoesN.zip3 (elts := elts) (x1 := kk) (pos := tpos) (prog := X.prog) (w := X.w) (A := X.A) S (draws_b (A := X.A.in1) hh k1 i1 a na us.toArray) (draws_b (A := X.A.in1) hh k2 i2 b nb vs.toArray) (draws_b (A := X.A.in1) hh k3 i3 c nc ws.toArray)
    rw [en] at W
    exact ⟨_, _, _, W, ez, eI, eO, ⟨e1, la⟩, ⟨e2, lb⟩, e3, lc⟩
def iZip3 (K : PySem.W.Frag) (ta : TA) : TI := fun σ H R => ta σ H fun vs H1 => ∃ (k1 k2 k3 : Bool) (a b c : Addr) (xs ys zs : List V), vs = [.ref a, .ref b, .ref c] ∧ SqB K k1 H1 a xs ∧ SqB K k2 H1 b ys ∧ SqB K k3 H1 c zs ∧ R (Itz3 K k1 k2 k3 a b c) H1
theorem pi_zip3 {X : Cx} {e e2 e3 : Expr} {ta : TA} {p pos tpos : Pos} {elts : List Expr} {kk : Nat} (gl : Gl X "zip") (nl : X.mg "zip" = none) (ha : PA X [e, e2, e3] ta)
    (s1 : starEach [e, e2, e3] X.env = (false, eval e X.env) :: starEach [e2, e3] X.env := by rfl) (s2 : (backTo pos (starEach [e2, e3] X.env)).any (·.1) = false := by rfl) :
    PI X (.Tuple elts kk tpos) (.Call (.Name "zip" p) [e, e2, e3] [] pos) (iZip3 X.K ta) := by
  constructor
  intro pins s σ H R I ask
  refine Call_ (ld_blt I gl nl PyProof.Rows.boot_zip (PyProof.Rows.callWith_type1 (thn (ha.run pos pins s σ H _ I ask) fun us t ⟨vs, H1, I1, rel, k1, k2, k3, a, b, c, xs, ys, zs, ev, qa, qb, qc, go⟩ => ?_) s1 s2))
  subst ev
  cases rel with
  | cons r rr => cases rr with
    | cons r' rr => cases rr with
      | cons r'' rr =>
        cases rr
        cases r
        cases r'
        cases r''
        obtain ⟨us, ru, la, ta⟩ := inv_b I1 qa
        obtain ⟨vs, rv, lb, tb⟩ := inv_b I1 qb
        obtain ⟨ws, rw', lc, tc⟩ := inv_b I1 qc
        refine zip_begins3 (begins_b k1 a us.toArray) (begins_b k2 b vs.toArray) (begins_b k3 c ws.toArray) la lb lc fun h' ez eI eO e1 e2 e3 _ kept => wpAny_pyIter_zip ez ?_
        have I2 : Inv X pins σ H1 { t with heap := h' } := I1.kept (t' := t.toks) kept
        refine ⟨t.heap.objs.size + 5, [t.heap.objs.size + 5, t.heap.objs.size + 3, t.heap.objs.size + 4, t.heap.objs.size, t.heap.objs.size + 1, t.heap.objs.size + 2], _, Itz3 X.K k1 k2 k3 a b c, H1, rfl, I2,
          turn_z3 (zip_sep3 (fun c m => by rw [List.mem_singleton.mp m]; exact ta) (fun c m => by rw [List.mem_singleton.mp m]; exact tb) (fun c m => by rw [List.mem_singleton.mp m]; exact tc)) (Nat.ne_of_lt ta) (Nat.ne_of_lt (Nat.lt_succ_of_lt tb)) (Nat.ne_of_lt (Nat.lt_succ_of_lt (Nat.lt_succ_of_lt tc))), ⟨ez, eI, ⟨_, _, _, eO⟩, iterB_new e1, iterB_new e2, iterB_new e3⟩, fun d m => ?_, go⟩
        have high : t.heap.objs.size ≤ d := by
          have m' : d = t.heap.objs.size + 5 ∨ d = t.heap.objs.size + 3 ∨ d = t.heap.objs.size + 4 ∨ d = t.heap.objs.size ∨ d = t.heap.objs.size + 1 ∨ d = t.heap.objs.size + 2 := by simpa using m
          rcases m' with z | z | z | z | z | z <;> rw [z] <;> first | exact Nat.le_refl _ | exact Nat.le_add_right _ _
        exact I1.fpOk high (I1.hok.fresh high)
end Fm

set_option Elab.async false
set_option linter.all false
set_option maxRecDepth 100000
set_option maxHeartbeats 4000000
/-! More rules: a dict with tuple keys (display of one pair, keys and items walked, where it is made on the way), a tuple extends a list, an item of a list or a tuple. Nothing of the program. -/
namespace Fm
open PySem PySem.Spec PyProof.Rows L2 Evl
/-! ### an item of a list or a tuple -/
def rIxB (K : PySem.W.Frag) : R2 := fun x y H Q => ∃ (k : Bool) (a : Addr) (xs : List V) (i : Int) (v : V), x = .ref a ∧ y = .int i ∧ SqB K k H a xs ∧ atI xs i = some v ∧ Q v H
section
variable {X : Cx}
theorem ix_b : IxR X (rIxB X.K) := by
  intro value slice pins st σ H lv iv v u Q inv rl ri ask sub
  obtain ⟨k, a, xs, i, z, el, ei, seq, at_, go⟩ := ask
  cases k
  · exact ix_list value slice pins st σ H lv iv v u Q inv rl ri ⟨a, xs, i, z, el, ei, seq, at_, go⟩ sub
  · exact ix_tup value slice pins st σ H lv iv v u Q inv rl ri ⟨a, xs, i, z, el, ei, seq, at_, go⟩ sub
/-! ### xs.extend(t), t a tuple -/
theorem meets_extT (l : Addr) (mine : Array Value) (n : Nat) (b : Addr) (more : Array Value) (m : Nat) (dd : Option Addr) (sl : Array (Option Value)) (short : ¬(!mine.isEmpty && Builtin.List.listTooLong (mine.size + more.size)) = true) (z1 : mine.size ≤ sizeLine) (z2 : mine.size + more.size ≤ sizeLine + 1) :
    Meets (Builtin.«list.extend» ⟨[.ref l, .ref b], []⟩) (fun _ R s => s.heap.get? l = some { cls := .type "list", dict := none, data := .seq mine n, slots := #[] } ∧ s.heap.get? b = some { cls := .type "tuple", dict := dd, data := .seq more m, slots := sl } ∧
      R (.ok (.ret Value.none)) { s with heap := s.heap.update l (Obj.mapSeq fun x => x ++ more), toks := s.toks }) := by
  refine .of_wp fun prog w A R s h => ?_
  obtain ⟨hp, g, d, tk, os⟩ := s
  obtain ⟨el, eb, go⟩ := h
  have a1 := AutoSeq1.idx_int
  have a2 := AutoSeq1.sub_tuple_tuple
  have a3 := AutoSeq1.sub_list_list
  have a4 := AutoSeq1.sub_tuple_list
  have a5 := AutoSeq1.sub_list_tuple
  have z3 : (mine ++ more).size ≤ sizeLine + 1 := by
    rw [Array.size_append]
    exact z2
  wp_walk using (wpAny_updateSeq el rfl (hz := z1) (_hz' := z3)), wpAny_loadPart' el, wpAny_loadPart' eb
  exact ⟨_, rfl, go⟩
def rExtendB (K : PySem.W.Frag) : V → List V → Hp → VK → Prop := fun x vs H Q => ∃ (l b : Addr) (xs zs : List V), x = .ref l ∧ vs = [.ref b] ∧ H l = some (.lst xs) ∧ H b = some (.tup zs) ∧ xs.length + zs.length ≤ sizeLine ∧ Q .non (upd H l (.lst (xs ++ zs)))
theorem mt_extendT : MtM X "list.extend" (rExtendB X.K) := by
  intro pins s σ H x vs v us Q I rx rv ask
  obtain ⟨l, b, xs, zs, ex, ev, at_l, at_b, small, go⟩ := ask
  subst ex ev
  cases rx
  obtain ⟨u, eu, ru⟩ := rv.one
  subst eu
  cases ru
  obtain ⟨z, its, n, r, hl, e⟩ := I.lstM at_l
  obtain ⟨_, its2, r2, ob, e2, c2, n2, d2⟩ := (show ObjOk X.prog X.w H s.heap b (.tup zs) from I.hok b _ at_b)
  have n3 := r.length
  have n4 := r2.length
  have size : its.toArray.size + its2.toArray.size ≤ sizeLine := by
    rw [List.size_toArray, List.size_toArray]
    omega
  have short : ¬ (!its.toArray.isEmpty && Builtin.List.listTooLong (its.toArray.size + its2.toArray.size)) = true := by
    rw [notLongL size, Bool.and_false]
    decide
  obtain ⟨oc, od, odat, osl⟩ := ob
  have c2 : oc = .type "tuple" := c2
  have d2 : odat = .seq its2.toArray n2 := d2
  subst c2 d2
  refine call_meets F.slot_list_extend ⟨_, e, rfl⟩ F.entry_list_extend (F.args_list_extend_2 _ _) (meets_extT l its.toArray n b its2.toArray n2 od osl short (by rw [List.size_toArray]; omega) (by omega)) ⟨e, e2, ?_⟩
  exact ⟨.non, _, I.lset (its' := its ++ its2) at_l e (by simp) (r.append r2) (by rw [List.length_append]; omega), rfl, go⟩
/-! ### a dict with tuple keys, made on the way and walked: from then on it stays as it is -/
def ItiT (d : Addr) (o : Obj) (kvs : List (List L2.Key × V)) : It :=
  ⟨fun i H => H d = some (.frz o (.dT kvs)) ∧ i < kvs.length, fun i H x H' => ∃ (T : Addr) (k : List L2.Key) (v : V) (q : Addr), kvs[i]? = some (k, v) ∧ x = .ref T ∧ H T = none ∧ H' = upd H T (.tup [.ref q, v]) ∧ H q = some (.tup (k.map kV)), fun i H => H d = some (.frz o (.dT kvs)) ∧ i = kvs.length⟩
theorem inv_frz {pins : List (Addr × Obj)} {σ : L2.St} {H : Hp} {s : Shared} {d : Addr} {o : Obj} {kvs : List (List L2.Key × V)} (I : Inv X pins σ H s) (at_ : H d = some (.frz o (.dT kvs))) :
    (d == sysModules) = false ∧ s.heap.get? d = some o ∧ o.ExactDict ∧ ∃ (es : Array DictEntry) (ep : Nat), o.data = .dict es ep ∧ es.size = kvs.length ∧
      ∀ (i : Nat) (k : List L2.Key) (v : V), kvs[i]? = some (k, v) → ∃ (en : DictEntry) (q : Addr), es[i]? = some en ∧ en.key = .ref q ∧ RelV v en.val ∧ H q = some (.tup (k.map kV)) := by
  obtain ⟨here, _, notSys, xs, pr, o2, es, ep, ho, exact_, data, list_, _⟩ := I.hok d _ at_
  rw [here] at ho
  cases ho
  refine ⟨notSys, here, exact_, es, ep, data, ?_, fun i k v e => ?_⟩
  · rw [size_of_entries list_, Paired.length pr]
  · obtain ⟨b, hb, _, e2, e3⟩ := paired_get pr e
    have q := entry_at list_ i
    rw [hb] at q
    exact ⟨_, b.2.1, q, rfl, e3, e2⟩
theorem turn_itemsT {P : Program} {w : World} {K : PySem.W.Frag} {elts : List Expr} {kk : Nat} {tpos : Pos} {d it : Addr} {o : Obj} {es : Array DictEntry} {ep : Nat} {kvs : List (List L2.Key × V)} (ne : d ≠ it) (data : o.data = .dict es ep) (exact_ : o.ExactDict) :
    Turn P w K (.Tuple elts kk tpos) (ItiT d o kvs) [it] it (fun i h => ∃ p q, IsItemIter h it d i es.size ep p q) := by
  refine turn_new [it] (by simp) (fun c m => m) (fun i h st c m => ?_) (fun i h h' st kept => ?_) ?_ ?_ (fun A i s Q E st h => ?_)
  · obtain ⟨p, q, e⟩ := st
    rw [List.mem_singleton.mp m]
    exact ⟨_, e, fun v z => nomatch z⟩
  · obtain ⟨p, q, e⟩ := st
    exact ⟨p, q, kept it (by simp) _ e⟩
  · intro X eP ew eK hh i pins s σ H I st ask
    subst eP ew eK
    obtain ⟨at_, lt⟩ := ask
    obtain ⟨_, here, _, es2, ep2, data2, size, ent⟩ := inv_frz I at_
    obtain ⟨rfl, rfl⟩ := dict_ep data data2
    obtain ⟨⟨k, v⟩, hkv⟩ : ∃ p, kvs[i]? = some p := ⟨kvs[i], List.getElem?_eq_getElem lt⟩
    obtain ⟨en, q, hen, ek, rv, hq⟩ := ent i k v hkv
    refine ⟨_, _, _, _, GoesN.rawItems hh it d ne es2 ep2, by omega, ⟨st, o, here, exact_, data⟩, fun h' st' => st'.1, fun r h' y' => ?_⟩
    obtain ⟨T, hi, er, high, tup⟩ := y'
    have e2 : es2[i] = en := by
      rw [Array.getElem?_eq_getElem hi] at hen
      exact Option.some.inj hen
    rw [e2, ek] at tup
    exact ⟨T, [.ref q, v], [.ref q, en.val], er, high, by show 2 ≤ sizeLine; decide, .cons rfl (.cons rv .nil), tup, fun fr => ⟨T, k, v, q, hkv, rfl, fr, rfl, hq⟩⟩
  · intro X eP ew eK hh i pins s σ H I st ask
    subst eP ew eK
    obtain ⟨at_, ei⟩ := ask
    obtain ⟨_, here, _, es2, ep2, data2, size, ent⟩ := inv_frz I at_
    obtain ⟨rfl, rfl⟩ := dict_ep data data2
    have W := GoesN.rawItems (prog := X.prog) (w := X.w) (A := X.A) (elts := elts) (x1 := kk) (pos := tpos) hh it d ne es2 ep2
    have en : i = es2.size := by rw [size, ei]
    subst en
    exact ⟨_, _, _, W, st, o, here, exact_, data⟩
  · obtain ⟨p, q, e⟩ := st
    exact wpAny_pyIter_itemiter e h
def iItemsT (td : TE) : TI := fun σ H R => td σ H fun x H1 => ∃ (d : Addr) (kvs : List (List L2.Key × V)), x = .ref d ∧ H1 d = some (.dT kvs) ∧ ∀ o, R (ItiT d o kvs) (upd H1 d (.frz o (.dT kvs)))
def iKeysT (td : TE) : TI := fun σ H R => td σ H fun x H1 => ∃ (d : Addr) (kvs : List (List L2.Key × V)), x = .ref d ∧ H1 d = some (.dT kvs) ∧ ∀ o, R (Itkt d o kvs) (upd H1 d (.frz o (.dT kvs)))
theorem pi_keysT {tg e : Expr} {td : TE} (he : PE X e td) : PI X tg e (iKeysT td) := by
  constructor
  intro pins s σ H R I ask
  refine thn (he.run pins s σ H _ I ask) fun u t ⟨x, H1, I1, rx, d, kvs, ex, at_, go⟩ => ?_
  subst ex
  cases rx
  obtain ⟨o, I2⟩ := I1.lock at_ True.intro
  obtain ⟨notSys, here, exact_, es, ep, data, size, _⟩ := inv_frz I2 upd_same
  refine iter_keys notSys here exact_ data (pi_one (tk := t.toks) I2 _ (turn_keysT _ data) ⟨_, Heap.get?_push_size _ rfl, rfl, ?_⟩ (go o))
  rw [size]
  rfl
theorem pi_itemsT {e : Expr} {td : TE} {apos cpos tpos : Pos} {elts : List Expr} {kk : Nat} (he : PE X e td) (base : attributeBase e "items" X.env (eval e X.env) = eval e X.env := by rfl) (line : (apos.endLine == cpos.line) = true := by rfl) :
    PI X (.Tuple elts kk tpos) (.Call (.Attribute e "items" apos) [] [] cpos) (iItemsT td) := by
  constructor
  intro pins s σ H R I ask
  refine wpAny_Call_method (T := "dict") (id := "dict.items") base rfl line F.plainAttrs_dict F.slot_dict_items F.type_dict_items (thn (he.run pins s σ H _ I ask) fun u t ⟨x, H1, I1, rx, d, kvs, ex, at_, go⟩ => ?_)
  subst ex
  cases rx
  obtain ⟨o, I2⟩ := I1.lock at_ True.intro
  obtain ⟨notSys, here, exact_, es, ep, data, size, _⟩ := inv_frz I2 upd_same
  have raw : t.heap.DictRaw d es ep := ⟨o, here, exact_, data⟩
  have lt : d < t.heap.objs.size := Heap.lt_size here
  refine ⟨raw.typeIs, fun b e => ?_, ?_⟩
  · cases e
    exact ⟨o, here, exact_.2.1⟩
  let t2 : Shared := { t with heap := t.heap.push { cls := .type "dict_items", data := .fields #[.ref d] } }
  have I3 : Inv X pins σ (upd H1 d (.frz o (.dT kvs))) t2 := I2.kept (t' := t.toks) fun b ob q => Heap.get?_push_of_some _ q
  have fin : wpAny (model X.prog X.w) X.A (pyIter (.ref t.heap.objs.size)) (PIE X pins σ (.Tuple elts kk tpos) R) X.xe t2 := by
    refine wpAny_pyIter_items_raw (s := t2) (d := d) (es := es) (ep := ep) ⟨_, Heap.get?_push_size _ rfl, rfl, rfl⟩ (raw.at fun ob q => Heap.get?_push_of_some _ q) ?_
    refine pi_one (tk := t.toks) I3 _ (turn_itemsT (Nat.ne_of_lt (Nat.lt_of_lt_of_le lt ?_)) data exact_) ⟨.none, .none, Heap.get?_push_size _ rfl⟩ (go o)
    show t.heap.objs.size ≤ (t.heap.push _).objs.size
    rw [Heap.size_push]
    exact Nat.le_succ _
  show wpAny _ _ (callWith cpos (.builtin "dict.items") [.ref d] [] []) _ X.xe t
  exact method_meetsIn F.slot_dict_items F.entry_dict_items rfl (PySem.evalArgs_none ⟨rfl, raw.typeIs, F.args_dict_items_1 _, _, meets_dict_items_raw d notSys, ⟨_, _, raw⟩, fin⟩)
/-! ### {k: v}, k a tuple -/
def tDisp1 (tk tv : TE) : TE := fun σ H Q => ∀ p, H p = none → tk σ (upd H p (.dT [])) fun x H1 => tv σ H1 fun y H2 => ∃ (b : Addr) (k : List L2.Key), x = .ref b ∧ H2 b = some (.tup (k.map kV)) ∧ H2 p = some (.dT []) ∧ Q (.ref p) (upd H2 p (.dT [(k, y)]))
theorem vv_one {x y : V} {ws : List (Value × Value)} (h : VV [(x, y)] ws) : ∃ z1 z2, ws = [(z1, z2)] ∧ L2.RelV x z1 ∧ L2.RelV y z2 := by
  cases h with
  | @cons a b as bs r t =>
    cases t
    exact ⟨b.1, b.2, rfl, r.1, r.2⟩
theorem pe_disp1 {k v : Expr} {tk tv : TE} {pos : Pos} (hu : X.A.units + 1 < cLine) (hk : PE X k tk) (hv : PE X v tv) : PE X (.Dict [some k] [v] pos) (tDisp1 tk tv) := by
  constructor
  intro pins s σ H Q I ask
  have fr := I.hok.fresh (Nat.le_refl s.heap.objs.size)
  have I1 := I.laid (a := s.heap.objs.size) (o := .dT []) (h' := s.heap.push { cls := .type "dict", data := .dict #[] }) (t' := s.toks) (fun _ _ q => Heap.get?_push_of_some _ q) (Nat.le_refl _) (dt_empty s.heap I.big)
  refine wpAny_Dict_any rfl rfl (by simp) (show (1 : Nat) ≤ 15 by decide) ?_
  refine thn ((pps_cons (pos := pos) hk hv pps_nil).run pins _ σ _ (fun ps H3 => match ps with
    | [(x, y)] => ∃ (b : Addr) (k : List L2.Key), x = .ref b ∧ H3 b = some (.tup (k.map kV)) ∧ H3 s.heap.objs.size = some (.dT []) ∧ Q (.ref s.heap.objs.size) (upd H3 s.heap.objs.size (.dT [(k, y)]))
    | _ => False) I1 (ask _ fr)) fun ws s2 ⟨ps, H2, I2, rel, q⟩ => ?_
  match ps, q with
  | [(x, y)], q =>
    obtain ⟨b, kk, ex, at_, empty, go⟩ := q
    obtain ⟨z1, z2, ew, r1, r2⟩ := vv_one rel
    subst ew ex
    cases r1
    obtain ⟨_, notSys, xs, rel0, dd⟩ := dt_of I2.hok empty
    cases rel0
    unfold storeAll
    rw [List.forIn_cons]
    refine wpAny_bind (wpAny_bind (wpAny_dictSet_heap (hsz := Nat.zero_le _) (knd := tupleKind (mixKind X.prog X.w)) (show X.A.units < cLine by omega) (key_of I2.hok at_) dd fun h' dd' hs => wpAny_pure ?_))
    refine wpAny_mono (Q := fun _ s3 => EP X pins σ Q (Value.ref s.heap.objs.size) s3) ?_ (fun _ _ z => z) fun _ _ z => z
    show wpAny _ _ (forIn ([] : List (Value × Value)) PUnit.unit _) _ _ _
    rw [List.forIn_nil]
    refine wpAny_pure ?_
    obtain ⟨q, es, ep, hq, h2, h3, h4, _, h5⟩ := dd'
    refine ⟨.ref s.heap.objs.size, _, ?_, rfl, go⟩
    have rel1 : KT H2 (putK [] kk y) (storedH [] kk b z2) := KT.put .nil kk at_ r2
    refine d_write I2 (by rw [empty]; exact True.intro) hs ⟨q, hq⟩ ⟨by show 1 ≤ sizeLine; decide, notSys, _, rel1.keeps fun c ys ec => ?_, q, es, ep, hq, h2, h3, h4, h5⟩
    rw [upd_ne (ne_of ec empty (fun z => nomatch z))]
    exact ec
end
end Fm

set_option Elab.async false
set_option linter.all false
set_option maxRecDepth 100000
set_option maxHeartbeats 4000000
/-! What the new readings evaluate to: short forms over FmWalk and FmMore. Nothing of the program. -/
namespace Fm
open PySem PySem.Spec PyProof.Rows L2 Evl
theorem hu1 {A : Around} {k : Nat} (hr : Room k A) : A.units + 1 < cLine := by
  have := hr.un
  omega
section
variable {K : PySem.W.Frag} {σ : L2.St} {H H' : Hp} {ta tb te tx td ty tv : TE} {t u : TT} {x y z v : V} {D : Ends} {tu tz : TS} {r : R2} {tA : TA}
theorem sb_l {a : Addr} {xs : List V} (h : H a = some (.lst xs)) : SqB K false H a xs := sq_of h
theorem sb_t {a : Addr} {xs : List V} (h : H a = some (.tup xs)) : SqB K true H a xs := st_of h
theorem ev_ixB {k : Bool} {p : Addr} {xs : List V} {j : Nat} (ha : Ev ta σ H (.ref p)) (hb : Ev tb σ H (.int (j : Int))) (h : SqB K k H p xs) (hj : xs[j]? = some v) : Ev (tOp (rIxB K) ta tb) σ H v :=
  ev_op ha hb fun H1 e _ q => ⟨k, p, xs, (j : Int), v, rfl, rfl, ex_b e h, atI_nat hj, q H1 (Ex.refl H1)⟩
/-! ### loops over zip -/
theorem s_forZ2 {k1 k2 : Bool} {a b : Addr} {xs ys : List V} {i1 i2 : Nat} (h : EvA tA σ H [.ref a, .ref b]) (hx : SqB K k1 H a xs) (hy : SqB K k2 H b ys) (Pv : Nat → L2.St → Hp → Prop) (h0 : ∀ H1, Ex H H1 → Pv 0 σ H1)
    (hl : ∀ i σ' H', Pv i σ' H' → SqB K k1 H' a xs ∧ SqB K k2 H' b ys)
    (hs : ∀ i x y σ' H', xs[i]? = some x → ys[i]? = some y → Pv i σ' H' → ∀ H1, Ex H' H1 → tu { D with nx := Pv (i + 1), ct := Pv (i + 1), bk := D.nx } ((σ'.set i1 (some x)).set i2 (some y)) H1)
    (hd : ∀ σ' H', Pv (min xs.length ys.length) σ' H' → D.nx σ' H') : tFor (iZip2 K tA) (zipG K i1 i2) tu D σ H :=
  h H (Ex.refl H) _ fun H1 e => ⟨k1, k2, a, b, xs, ys, rfl, ex_b e hx, ex_b e hy, ⟨fun i m σ H => m = min xs.length ys.length - i ∧ i ≤ min xs.length ys.length ∧ Pv i σ H, ⟨min xs.length ys.length, rfl, Nat.zero_le _, h0 H1 e⟩, by
    rintro i m σ H ⟨rfl, hi, p⟩
    obtain ⟨qx, qy⟩ := hl i σ H p
    by_cases lt : i < min xs.length ys.length
    · have gx : xs[i]? = some xs[i] := List.getElem?_eq_getElem (by omega)
      have gy : ys[i]? = some ys[i] := List.getElem?_eq_getElem (by omega)
      refine .inr ⟨⟨xs, ys, _, _, qx, qy, gx, gy⟩, Pv (i + 1), fun σ' H' p' => ⟨min xs.length ys.length - (i + 1), by omega, rfl, lt, p'⟩, fun v H' hv => ?_⟩
      obtain ⟨T, x', y', rfl, nT, rfl, f1, f2⟩ := hv
      have e1 : x' = xs[i] := Option.some.inj ((f1 _ qx).symm.trans gx)
      have e2 : y' = ys[i] := Option.some.inj ((f2 _ qy).symm.trans gy)
      subst e1 e2
      exact zipG_go upd_same (hs i _ _ σ H gx gy p _ (Ex.new nT))
    · have ei : i = min xs.length ys.length := by omega
      subst ei
      exact .inl ⟨⟨xs, ys, qx, qy, rfl⟩, hd σ H p⟩⟩⟩
theorem q_forZ2 {k1 k2 : Bool} {a b : Addr} {xs ys : List V} {i1 i2 : Nat} (h : EvA tA σ H [.ref a, .ref b]) (hx : SqB K k1 H a xs) (hy : SqB K k2 H b ys) (Pv : Nat → L2.St → Hp → Prop) (h0 : ∀ H1, Ex H H1 → Pv 0 σ H1)
    (hl : ∀ i σ' H', Pv i σ' H' → SqB K k1 H' a xs ∧ SqB K k2 H' b ys)
    (hs : ∀ i x y σ' H', xs[i]? = some x → ys[i]? = some y → Pv i σ' H' → ∀ H1, Ex H' H1 → tu { D with nx := Pv (i + 1), ct := Pv (i + 1), bk := tz D } ((σ'.set i1 (some x)).set i2 (some y)) H1)
    (hd : ∀ σ' H', Pv (min xs.length ys.length) σ' H' → tz D σ' H') : tSeq (tFor (iZip2 K tA) (zipG K i1 i2) tu) tz D σ H :=
  s_forZ2 (D := { D with nx := tz D }) h hx hy Pv h0 hl hs hd
def zipG3 (K : PySem.W.Frag) (i j k : Nat) : TG := gTup K 3 (gCons (gName i) (gCons (gName j) (gCons (gName k) gNil)))
theorem zipG3_go {i j k : Nat} {T : Addr} {Q : L2.St → Hp → Prop} (hT : H T = some (.tup [x, y, z])) (q : Q (((σ.set i (some x)).set j (some y)).set k (some z)) H) : zipG3 K i j k (.ref T) σ H Q :=
  ⟨T, [x, y, z], rfl, st_of hT, rfl, x, [y, z], rfl, y, [z], rfl, z, [], rfl, rfl, q⟩
theorem q_forZ3 {k1 k2 k3 : Bool} {a b c : Addr} {xs ys zs : List V} {i1 i2 i3 : Nat} (h : EvA tA σ H [.ref a, .ref b, .ref c]) (hx : SqB K k1 H a xs) (hy : SqB K k2 H b ys) (hz : SqB K k3 H c zs) (n : Nat) (hn : min (min xs.length ys.length) zs.length = n) (Pv : Nat → L2.St → Hp → Prop) (h0 : ∀ H1, Ex H H1 → Pv 0 σ H1)
    (hl : ∀ i σ' H', Pv i σ' H' → SqB K k1 H' a xs ∧ SqB K k2 H' b ys ∧ SqB K k3 H' c zs)
    (hs : ∀ i x y z σ' H', xs[i]? = some x → ys[i]? = some y → zs[i]? = some z → Pv i σ' H' → ∀ H1, Ex H' H1 → tu { D with nx := Pv (i + 1), ct := Pv (i + 1), bk := tz D } (((σ'.set i1 (some x)).set i2 (some y)).set i3 (some z)) H1)
    (hd : ∀ σ' H', Pv n σ' H' → tz D σ' H') : tSeq (tFor (iZip3 K tA) (zipG3 K i1 i2 i3) tu) tz D σ H :=
  h H (Ex.refl H) _ fun H1 e => ⟨k1, k2, k3, a, b, c, xs, ys, zs, rfl, ex_b e hx, ex_b e hy, ex_b e hz, ⟨fun i m σ H => m = n - i ∧ i ≤ n ∧ Pv i σ H, ⟨n, rfl, Nat.zero_le _, h0 H1 e⟩, by
    rintro i m σ H ⟨rfl, hi, p⟩
    obtain ⟨qx, qy, qz⟩ := hl i σ H p
    by_cases lt : i < n
    · have gx : xs[i]? = some xs[i] := List.getElem?_eq_getElem (by omega)
      have gy : ys[i]? = some ys[i] := List.getElem?_eq_getElem (by omega)
      have gz : zs[i]? = some zs[i] := List.getElem?_eq_getElem (by omega)
      refine .inr ⟨⟨xs, ys, zs, _, _, _, qx, qy, qz, gx, gy, gz⟩, Pv (i + 1), fun σ' H' p' => ⟨n - (i + 1), by omega, rfl, lt, p'⟩, fun v H' hv => ?_⟩
      obtain ⟨T, x', y', z', rfl, nT, rfl, f1, f2, f3⟩ := hv
      have e1 : x' = xs[i] := Option.some.inj ((f1 _ qx).symm.trans gx)
      have e2 : y' = ys[i] := Option.some.inj ((f2 _ qy).symm.trans gy)
      have e3 : z' = zs[i] := Option.some.inj ((f3 _ qz).symm.trans gz)
      subst e1 e2 e3
      exact zipG3_go upd_same (hs i _ _ _ σ H gx gy gz p _ (Ex.new nT))
    · have ei : i = n := by omega
      subst ei
      exact .inl ⟨⟨xs, ys, zs, qx, qy, qz, hn.symm⟩, hd σ H p⟩⟩⟩
/-! ### tuples: slices, + -/
theorem eu_slA {tl th : TO} {a : Addr} {xs : List V} {lo hi : Option Int} (h : Ev te σ H (.ref a)) (h1 : EvO tl σ H lo) (h2 : EvO th σ H hi) (hs : SqT K H a xs) (hn : ¬ (HT.sIx xs.length 0 lo = 0 ∧ HT.sIx xs.length xs.length hi = xs.length)) : EvU (tSl (rSlA K) te tl th) σ H (cutV xs lo hi) := fun H1 e Q q =>
  h H1 e _ fun H2 e2 => h1 H2 (e.trans e2) _ fun H3 e3 => h2 H3 ((e.trans e2).trans e3) _ fun H4 e4 => ⟨a, xs, rfl, ex_t (((e.trans e2).trans e3).trans e4) hs, fun z => absurd z hn, fun _ p hp => q p _ (fresh_back ((e2.trans e3).trans e4) hp) (((e2.trans e3).trans e4).trans (Ex.new hp)) upd_same⟩
theorem eu_catA {xs ys : List V} (ha : EvU ta σ H xs) (hb : EvU tb σ H ys) (hz : xs.length + ys.length ≤ 100000) : EvU (tOp (rCatA K) ta tb) σ H (xs ++ ys) := fun H1 e Q q =>
  ha H1 e _ fun p H2 np e2 hp => hb H2 (e.trans e2) _ fun p' H3 np' e3 hp' => ⟨p, p', xs, ys, rfl, rfl, st_of (e3 _ _ hp), st_of hp', sz_of hz,
    fun h0 => q p' H3 (fresh_back e2 np') (e2.trans e3) (by rw [h0]; exact hp'), fun _ h0 => q p H3 np (e2.trans e3) (by rw [h0, List.append_nil]; exact e3 _ _ hp), fun _ _ r hr => q r _ (fresh_back (e2.trans e3) hr) ((e2.trans e3).trans (Ex.new hr)) upd_same⟩
/-- the first tuple stands; the second one, new, is not empty -/
theorem eu_catS {a : Addr} {xs ys : List V} (ha : Ev ta σ H (.ref a)) (hx : SqT K H a xs) (hb : EvU tb σ H ys) (hy : ys ≠ []) (hz : xs.length + ys.length ≤ 100000) : EvU (tOp (rCatA K) ta tb) σ H (xs ++ ys) := fun H1 e Q q =>
  ha H1 e _ fun H2 e2 => hb H2 (e.trans e2) _ fun p' H3 np' e3 hp' => ⟨a, p', xs, ys, rfl, rfl, ex_t ((e.trans e2).trans e3) hx, st_of hp', sz_of hz,
    fun h0 => q p' H3 (fresh_back e2 np') (e2.trans e3) (by rw [h0]; exact hp'), fun _ h0 => absurd h0 hy, fun _ _ r hr => q r _ (fresh_back (e2.trans e3) hr) ((e2.trans e3).trans (Ex.new hr)) upd_same⟩
/-- tuple(xs) of a list -/
theorem eu_tupOf {a : Addr} {xs : List V} (h : Ev te σ H (.ref a)) (hs : SqL K H a xs) : EvU (tThen te (kTup K)) σ H xs := fun H1 e Q q =>
  h H1 e _ fun H2 e2 => .inl ⟨a, xs, rfl, ex_l (e.trans e2) hs, fun p hp => q p _ (fresh_back e2 hp) (e2.trans (Ex.new hp)) upd_same⟩
/-! ### any, all of a new list of truth values -/
theorem ev_any {bs : List Bool} (h : EvL te σ H (bs.map V.bl)) : Ev (tCB (rAny K) (tCons te tNil)) σ H (.bl (bs.any id)) := fun H1 e Q q =>
  h H1 e _ fun p H2 _ e2 hp => ⟨p, bs, rfl, sq_of hp, q H2 e2⟩
theorem ev_all {bs : List Bool} (h : EvL te σ H (bs.map V.bl)) : Ev (tCB (rAll K) (tCons te tNil)) σ H (.bl (bs.all id)) := fun H1 e Q q =>
  h H1 e _ fun p H2 _ e2 hp => ⟨p, bs, rfl, sq_of hp, q H2 e2⟩
/-! ### dicts with tuple keys -/
abbrev keyL (s : List Nat) : List L2.Key := s.map fun n => Sum.inl ((n : Nat) : Int)
theorem key_nats (s : List Nat) : (keyL s).map kV = s.map fun n => V.int ((n : Nat) : Int) := by
  unfold keyL
  rw [List.map_map]
  rfl
theorem keyL_inj {a b : List Nat} (h : keyL a = keyL b) : a = b := by
  induction a generalizing b with
  | nil =>
    cases b with
    | nil => rfl
    | cons y b => cases h
  | cons x a ih =>
    cases b with
    | nil => cases h
    | cons y b =>
      obtain ⟨h1, h2⟩ := List.cons.inj h
      have e : (x : Int) = (y : Int) := Sum.inl.inj h1
      rw [ih h2, Int.natCast_inj.mp e]
variable {kvs : List (List L2.Key × V)} {d b : Addr} {k : List L2.Key}
theorem ev_dget (ha : Ev td σ H (.ref d)) (hb : Ev ty σ H (.ref b)) (hd : H d = some (.dT kvs)) (hk : H b = some (.tup (k.map kV))) (hv : valV kvs k = some v) : Ev (tDGet td ty) σ H v := fun H1 e Q q =>
  ha H1 e _ fun H2 e2 => hb H2 (e.trans e2) _ fun H3 e3 => ⟨d, v, rfl, by
    have g := DGet.t (((e.trans e2).trans e3) _ _ hd) (((e.trans e2).trans e3) _ _ hk)
    rw [hv] at g
    exact g, q H3 (e2.trans e3)⟩
theorem et_dnotin (ha : Ev td σ H (.ref d)) (hb : Ev ty σ H (.ref b)) (hd : H d = some (.dT kvs)) (hk : H b = some (.tup (k.map kV))) : EvT (tB (tDNotIn ty td)) σ H (!(valV kvs k).isSome) := fun H1 e Q q =>
  hb H1 e _ fun H2 e2 => ha H2 (e.trans e2) _ fun H3 e3 => ⟨d, valV kvs k, rfl, DGet.t (((e.trans e2).trans e3) _ _ hd) (((e.trans e2).trans e3) _ _ hk), _, rfl, q H3 (e2.trans e3)⟩
theorem s_dput (hv : Ev tv σ H v) (ha : Ev td σ H (.ref d)) (hb : Ev ty σ H (.ref b)) (hd : H d = some (.dT kvs)) (hk : H b = some (.tup (k.map kV))) (hz : kvs.length < 100000)
    (q : ∀ H1, Ex H H1 → D.nx σ (upd H1 d (.dT (putK kvs k v)))) : sDPut td ty tv D σ H :=
  hv H (Ex.refl H) _ fun H1 e1 => ha H1 e1 _ fun H2 e2 => hb H2 (e1.trans e2) _ fun H3 e3 => ⟨d, _, rfl, DPut.t (((e1.trans e2).trans e3) _ _ hd) (((e1.trans e2).trans e3) _ _ hk) (sz_lt hz), q H3 ((e1.trans e2).trans e3)⟩
theorem q_dput (hv : Ev tv σ H v) (ha : Ev td σ H (.ref d)) (hb : Ev ty σ H (.ref b)) (hd : H d = some (.dT kvs)) (hk : H b = some (.tup (k.map kV))) (hz : kvs.length < 100000)
    (q : ∀ H1, Ex H H1 → tz D σ (upd H1 d (.dT (putK kvs k v)))) : tSeq (sDPut td ty tv) tz D σ H := s_dput (D := { D with nx := tz D }) hv ha hb hd hk hz q
end
end Fm

set_option Elab.async false
set_option linter.all false
set_option maxRecDepth 100000
set_option maxHeartbeats 4000000
/-! The program's text by places: its defs, their slots. -/
namespace Fm
open PySem PySem.Spec PyProof.Rows L2 Evl
def top (i : Nat) : Stmt := PySem.Challenge.pw_flowmoves_s01_answers.main.body.getD i (.Pass ⟨0, 0, 0, 0⟩)
abbrev s_Link_init : Stmt := inClass (top 28) 0
abbrev N_Link_init : List Str := ["self", "node_a", "node_b", "capacity"]
theorem sc_Link_init : FnScope N_Link_init ["self", "node_a", "node_b", "capacity"] (defScope s_Link_init) := ⟨rfl, rfl, rfl, by decide +kernel, rfl, by decide +kernel, by decide +kernel⟩
abbrev s_Path_init : Stmt := inClass (top 29) 0
abbrev N_Path_init : List Str := ["self", "nodes", "links"]
theorem sc_Path_init : FnScope N_Path_init ["self", "nodes", "links"] (defScope s_Path_init) := ⟨rfl, rfl, rfl, by decide +kernel, rfl, by decide +kernel, by decide +kernel⟩
abbrev s_Flow_init : Stmt := inClass (top 30) 0
abbrev N_Flow_init : List Str := ["self", "source", "destination", "demand"]
theorem sc_Flow_init : FnScope N_Flow_init ["self", "source", "destination", "demand"] (defScope s_Flow_init) := ⟨rfl, rfl, rfl, by decide +kernel, rfl, by decide +kernel, by decide +kernel⟩
abbrev s_Network_init : Stmt := inClass (top 31) 0
abbrev N_Network_init : List Str := ["self", "node_count"]
theorem sc_Network_init : FnScope N_Network_init ["self", "node_count"] (defScope s_Network_init) := ⟨rfl, rfl, rfl, by decide +kernel, rfl, by decide +kernel, by decide +kernel⟩
abbrev s_Call_init : Stmt := inClass (top 94) 0
abbrev N_Call_init : List Str := ["self", "operation", "numbers", "row"]
theorem sc_Call_init : FnScope N_Call_init ["self", "operation", "numbers", "row"] (defScope s_Call_init) := ⟨rfl, rfl, rfl, by decide +kernel, rfl, by decide +kernel, by decide +kernel⟩
abbrev s_Instance_init : Stmt := inClass (top 97) 0
abbrev N_Instance_init : List Str := ["self"]
theorem sc_Instance_init : FnScope N_Instance_init ["self"] (defScope s_Instance_init) := ⟨rfl, rfl, rfl, by decide +kernel, rfl, by decide +kernel, by decide +kernel⟩
abbrev s_loads_under : Stmt := top 18
abbrev N_loads_under : List Str := ["network", "assignment", "loads", "flow", "choice", "link"]
theorem sc_loads_under : FnScope N_loads_under ["network", "assignment"] (defScope s_loads_under) := ⟨rfl, rfl, rfl, by decide +kernel, rfl, by decide +kernel, by decide +kernel⟩
abbrev s_is_feasible : Stmt := top 19
abbrev N_is_feasible : List Str := ["network", "assignment", "load", "link"]
theorem sc_is_feasible : FnScope N_is_feasible ["network", "assignment"] (defScope s_is_feasible) := ⟨rfl, rfl, rfl, by decide +kernel, rfl, by decide +kernel, by decide +kernel⟩
abbrev s_has_room : Stmt := top 20
abbrev N_has_room : List Str := ["network", "loads", "links", "demand", "link"]
theorem sc_has_room : FnScope N_has_room ["network", "loads", "links", "demand"] (defScope s_has_room) := ⟨rfl, rfl, rfl, by decide +kernel, rfl, by decide +kernel, by decide +kernel⟩
abbrev s_links_entered : Stmt := top 22
abbrev N_links_entered : List Str := ["old_path", "new_path", "link"]
theorem sc_links_entered : FnScope N_links_entered ["old_path", "new_path"] (defScope s_links_entered) := ⟨rfl, rfl, rfl, by decide +kernel, rfl, by decide +kernel, by decide +kernel⟩
abbrev s_paths_to_enter : Stmt := top 23
abbrev N_paths_to_enter : List Str := ["network", "loads", "flow", "choice", "old_path", "found", "path", "new_path"]
theorem sc_paths_to_enter : FnScope N_paths_to_enter ["network", "loads", "flow", "choice"] (defScope s_paths_to_enter) := ⟨rfl, rfl, rfl, by decide +kernel, rfl, by decide +kernel, by decide +kernel⟩
abbrev s_allowed_moves : Stmt := top 24
abbrev N_allowed_moves : List Str := ["network", "assignment", "loads", "moves", "index", "flow", "path"]
theorem sc_allowed_moves : FnScope N_allowed_moves ["network", "assignment"] (defScope s_allowed_moves) := ⟨rfl, rfl, rfl, by decide +kernel, rfl, by decide +kernel, by decide +kernel⟩
abbrev s_after_move : Stmt := top 25
abbrev N_after_move : List Str := ["assignment", "flow", "path"]
theorem sc_after_move : FnScope N_after_move ["assignment", "flow", "path"] (defScope s_after_move) := ⟨rfl, rfl, rfl, by decide +kernel, rfl, by decide +kernel, by decide +kernel⟩
abbrev s_tell_moves : Stmt := top 26
abbrev N_tell_moves : List Str := ["moves", "told", "move"]
theorem sc_tell_moves : FnScope N_tell_moves ["moves"] (defScope s_tell_moves) := ⟨rfl, rfl, rfl, by decide +kernel, rfl, by decide +kernel, by decide +kernel⟩
abbrev s_has_node : Stmt := top 32
abbrev N_has_node : List Str := ["network", "node"]
theorem sc_has_node : FnScope N_has_node ["network", "node"] (defScope s_has_node) := ⟨rfl, rfl, rfl, by decide +kernel, rfl, by decide +kernel, by decide +kernel⟩
abbrev s_has_link : Stmt := top 33
abbrev N_has_link : List Str := ["network", "link"]
theorem sc_has_link : FnScope N_has_link ["network", "link"] (defScope s_has_link) := ⟨rfl, rfl, rfl, by decide +kernel, rfl, by decide +kernel, by decide +kernel⟩
abbrev s_has_flow : Stmt := top 34
abbrev N_has_flow : List Str := ["network", "flow"]
theorem sc_has_flow : FnScope N_has_flow ["network", "flow"] (defScope s_has_flow) := ⟨rfl, rfl, rfl, by decide +kernel, rfl, by decide +kernel, by decide +kernel⟩
abbrev s_has_path : Stmt := top 35
abbrev N_has_path : List Str := ["network", "flow", "path"]
theorem sc_has_path : FnScope N_has_path ["network", "flow", "path"] (defScope s_has_path) := ⟨rfl, rfl, rfl, by decide +kernel, rfl, by decide +kernel, by decide +kernel⟩
abbrev s_link_between : Stmt := top 36
abbrev N_link_between : List Str := ["network", "node_a", "node_b", "index", "link"]
theorem sc_link_between : FnScope N_link_between ["network", "node_a", "node_b"] (defScope s_link_between) := ⟨rfl, rfl, rfl, by decide +kernel, rfl, by decide +kernel, by decide +kernel⟩
abbrev s_links_at : Stmt := top 37
abbrev N_links_at : List Str := ["network", "node", "index", "link"]
theorem sc_links_at : FnScope N_links_at ["network", "node"] (defScope s_links_at) := ⟨rfl, rfl, rfl, by decide +kernel, rfl, by decide +kernel, by decide +kernel⟩
abbrev s_links_along : Stmt := top 38
abbrev N_links_along : List Str := ["network", "nodes", "here", "there"]
theorem sc_links_along : FnScope N_links_along ["network", "nodes"] (defScope s_links_along) := ⟨rfl, rfl, rfl, by decide +kernel, rfl, by decide +kernel, by decide +kernel⟩
abbrev s_is_path_of : Stmt := top 39
abbrev N_is_path_of : List Str := ["network", "flow", "nodes"]
theorem sc_is_path_of : FnScope N_is_path_of ["network", "flow", "nodes"] (defScope s_is_path_of) := ⟨rfl, rfl, rfl, by decide +kernel, rfl, by decide +kernel, by decide +kernel⟩
abbrev s_uses_link : Stmt := top 40
abbrev N_uses_link : List Str := ["flow", "choice", "link"]
theorem sc_uses_link : FnScope N_uses_link ["flow", "choice", "link"] (defScope s_uses_link) := ⟨rfl, rfl, rfl, by decide +kernel, rfl, by decide +kernel, by decide +kernel⟩
abbrev s_add_link : Stmt := top 42
abbrev N_add_link : List Str := ["network", "node_a", "node_b", "capacity"]
theorem sc_add_link : FnScope N_add_link ["network", "node_a", "node_b", "capacity"] (defScope s_add_link) := ⟨rfl, rfl, rfl, by decide +kernel, rfl, by decide +kernel, by decide +kernel⟩
abbrev s_add_flow : Stmt := top 43
abbrev N_add_flow : List Str := ["network", "source", "destination", "demand"]
theorem sc_add_flow : FnScope N_add_flow ["network", "source", "destination", "demand"] (defScope s_add_flow) := ⟨rfl, rfl, rfl, by decide +kernel, rfl, by decide +kernel, by decide +kernel⟩
abbrev s_add_path : Stmt := top 44
abbrev N_add_path : List Str := ["network", "flow", "nodes", "owner", "path"]
theorem sc_add_path : FnScope N_add_path ["network", "flow", "nodes"] (defScope s_add_path) := ⟨rfl, rfl, rfl, by decide +kernel, rfl, by decide +kernel, by decide +kernel⟩
abbrev s_place_flow : Stmt := top 45
abbrev N_place_flow : List Str := ["network", "flow", "path", "placed", "loads"]
theorem sc_place_flow : FnScope N_place_flow ["network", "flow", "path"] (defScope s_place_flow) := ⟨rfl, rfl, rfl, by decide +kernel, rfl, by decide +kernel, by decide +kernel⟩
abbrev s_stop_flow : Stmt := top 46
abbrev N_stop_flow : List Str := ["network", "flow", "choice"]
theorem sc_stop_flow : FnScope N_stop_flow ["network", "flow"] (defScope s_stop_flow) := ⟨rfl, rfl, rfl, by decide +kernel, rfl, by decide +kernel, by decide +kernel⟩
abbrev s_move_flow : Stmt := top 47
abbrev N_move_flow : List Str := ["network", "flow", "path", "choice"]
theorem sc_move_flow : FnScope N_move_flow ["network", "flow", "path"] (defScope s_move_flow) := ⟨rfl, rfl, rfl, by decide +kernel, rfl, by decide +kernel, by decide +kernel⟩
abbrev s_set_capacity : Stmt := top 48
abbrev N_set_capacity : List Str := ["network", "link", "capacity", "previous"]
theorem sc_set_capacity : FnScope N_set_capacity ["network", "link", "capacity"] (defScope s_set_capacity) := ⟨rfl, rfl, rfl, by decide +kernel, rfl, by decide +kernel, by decide +kernel⟩
abbrev s_current_assignment : Stmt := top 50
abbrev N_current_assignment : List Str := ["network"]
theorem sc_current_assignment : FnScope N_current_assignment ["network"] (defScope s_current_assignment) := ⟨rfl, rfl, rfl, by decide +kernel, rfl, by decide +kernel, by decide +kernel⟩
abbrev s_plans_from : Stmt := top 51
abbrev N_plans_from : List Str := ["network", "start", "plans", "found", "position", "here", "flow", "path", "there"]
theorem sc_plans_from : FnScope N_plans_from ["network", "start"] (defScope s_plans_from) := ⟨rfl, rfl, rfl, by decide +kernel, rfl, by decide +kernel, by decide +kernel⟩
abbrev s_choices_of : Stmt := top 52
abbrev N_choices_of : List Str := ["flow", "choice"]
theorem sc_choices_of : FnScope N_choices_of ["flow", "choice"] (defScope s_choices_of) := ⟨rfl, rfl, rfl, by decide +kernel, rfl, by decide +kernel, by decide +kernel⟩
abbrev s_candidate_assignments : Stmt := top 53
abbrev N_candidate_assignments : List Str := ["network", "found", "flow", "current", "longer", "assignment", "choice"]
theorem sc_candidate_assignments : FnScope N_candidate_assignments ["network"] (defScope s_candidate_assignments) := ⟨rfl, rfl, rfl, by decide +kernel, rfl, by decide +kernel, by decide +kernel⟩
abbrev s_count_components : Stmt := top 54
abbrev N_count_components : List Str := ["network", "candidates", "seen", "components", "candidate", "reached"]
theorem sc_count_components : FnScope N_count_components ["network", "candidates"] (defScope s_count_components) := ⟨rfl, rfl, rfl, by decide +kernel, rfl, by decide +kernel, by decide +kernel⟩
abbrev s_is_target_form : Stmt := top 56
abbrev N_is_target_form : List Str := ["network", "target", "flow", "current", "wanted"]
theorem sc_is_target_form : FnScope N_is_target_form ["network", "target"] (defScope s_is_target_form) := ⟨rfl, rfl, rfl, by decide +kernel, rfl, by decide +kernel, by decide +kernel⟩
abbrev s_is_drained : Stmt := top 57
abbrev N_is_drained : List Str := ["network", "assignment", "links", "flow", "choice", "link"]
theorem sc_is_drained : FnScope N_is_drained ["network", "assignment", "links"] (defScope s_is_drained) := ⟨rfl, rfl, rfl, by decide +kernel, rfl, by decide +kernel, by decide +kernel⟩
abbrev s_find_drain : Stmt := top 58
abbrev N_find_drain : List Str := ["network", "links", "assignment", "plan"]
theorem sc_find_drain : FnScope N_find_drain ["network", "links"] (defScope s_find_drain) := ⟨rfl, rfl, rfl, by decide +kernel, rfl, by decide +kernel, by decide +kernel⟩
abbrev s_tell_plan : Stmt := top 59
abbrev N_tell_plan : List Str := ["plan"]
theorem sc_tell_plan : FnScope N_tell_plan ["plan"] (defScope s_tell_plan) := ⟨rfl, rfl, rfl, by decide +kernel, rfl, by decide +kernel, by decide +kernel⟩
abbrev s_plan_to : Stmt := top 60
abbrev N_plan_to : List Str := ["network", "target"]
theorem sc_plan_to : FnScope N_plan_to ["network", "target"] (defScope s_plan_to) := ⟨rfl, rfl, rfl, by decide +kernel, rfl, by decide +kernel, by decide +kernel⟩
abbrev s_plan_link_drain : Stmt := top 61
abbrev N_plan_link_drain : List Str := ["network", "link"]
theorem sc_plan_link_drain : FnScope N_plan_link_drain ["network", "link"] (defScope s_plan_link_drain) := ⟨rfl, rfl, rfl, by decide +kernel, rfl, by decide +kernel, by decide +kernel⟩
abbrev s_plan_node_drain : Stmt := top 62
abbrev N_plan_node_drain : List Str := ["network", "node"]
theorem sc_plan_node_drain : FnScope N_plan_node_drain ["network", "node"] (defScope s_plan_node_drain) := ⟨rfl, rfl, rfl, by decide +kernel, rfl, by decide +kernel, by decide +kernel⟩
abbrev s_drain_link : Stmt := top 63
abbrev N_drain_link : List Str := ["network", "link", "plan", "flow", "path"]
theorem sc_drain_link : FnScope N_drain_link ["network", "link"] (defScope s_drain_link) := ⟨rfl, rfl, rfl, by decide +kernel, rfl, by decide +kernel, by decide +kernel⟩
abbrev s_tell_link_loads : Stmt := top 65
abbrev N_tell_link_loads : List Str := ["network", "told", "load", "link"]
theorem sc_tell_link_loads : FnScope N_tell_link_loads ["network"] (defScope s_tell_link_loads) := ⟨rfl, rfl, rfl, by decide +kernel, rfl, by decide +kernel, by decide +kernel⟩
abbrev s_tell_assignment : Stmt := top 66
abbrev N_tell_assignment : List Str := ["network"]
theorem sc_tell_assignment : FnScope N_tell_assignment ["network"] (defScope s_tell_assignment) := ⟨rfl, rfl, rfl, by decide +kernel, rfl, by decide +kernel, by decide +kernel⟩
abbrev s_tell_allowed_moves : Stmt := top 67
abbrev N_tell_allowed_moves : List Str := ["network"]
theorem sc_tell_allowed_moves : FnScope N_tell_allowed_moves ["network"] (defScope s_tell_allowed_moves) := ⟨rfl, rfl, rfl, by decide +kernel, rfl, by decide +kernel, by decide +kernel⟩
abbrev s_tell_reachable_count : Stmt := top 68
abbrev N_tell_reachable_count : List Str := ["network", "reached"]
theorem sc_tell_reachable_count : FnScope N_tell_reachable_count ["network"] (defScope s_tell_reachable_count) := ⟨rfl, rfl, rfl, by decide +kernel, rfl, by decide +kernel, by decide +kernel⟩
abbrev s_tell_component_count : Stmt := top 69
abbrev N_tell_component_count : List Str := ["network", "candidates"]
theorem sc_tell_component_count : FnScope N_tell_component_count ["network"] (defScope s_tell_component_count) := ⟨rfl, rfl, rfl, by decide +kernel, rfl, by decide +kernel, by decide +kernel⟩
abbrev s_tell_stuck_flows : Stmt := top 70
abbrev N_tell_stuck_flows : List Str := ["network", "link", "reached", "stuck", "index", "flow", "assignment"]
theorem sc_tell_stuck_flows : FnScope N_tell_stuck_flows ["network", "link"] (defScope s_tell_stuck_flows) := ⟨rfl, rfl, rfl, by decide +kernel, rfl, by decide +kernel, by decide +kernel⟩
abbrev s_tell_flow_paths : Stmt := top 71
abbrev N_tell_flow_paths : List Str := ["network", "flow", "paths", "told", "path"]
theorem sc_tell_flow_paths : FnScope N_tell_flow_paths ["network", "flow"] (defScope s_tell_flow_paths) := ⟨rfl, rfl, rfl, by decide +kernel, rfl, by decide +kernel, by decide +kernel⟩
abbrev s_tell_totals : Stmt := top 72
abbrev N_tell_totals : List Str := ["network", "active_demand", "flow", "choice"]
theorem sc_tell_totals : FnScope N_tell_totals ["network"] (defScope s_tell_totals) := ⟨rfl, rfl, rfl, by decide +kernel, rfl, by decide +kernel, by decide +kernel⟩
abbrev s_read_calls : Stmt := top 95
abbrev N_read_calls : List Str := ["calls", "found", "position", "operation", "start", "numbers", "row"]
theorem sc_read_calls : FnScope N_read_calls ["calls"] (defScope s_read_calls) := ⟨rfl, rfl, rfl, by decide +kernel, rfl, by decide +kernel, by decide +kernel⟩
abbrev s_create_network : Stmt := top 98
abbrev N_create_network : List Str := ["instance", "node_count"]
theorem sc_create_network : FnScope N_create_network ["instance", "node_count"] (defScope s_create_network) := ⟨rfl, rfl, rfl, by decide +kernel, rfl, by decide +kernel, by decide +kernel⟩
abbrev s_answer_call : Stmt := top 99
abbrev N_answer_call : List Str := ["instance", "call"]
theorem sc_answer_call : FnScope N_answer_call ["instance", "call"] (defScope s_answer_call) := ⟨rfl, rfl, rfl, by decide +kernel, rfl, by decide +kernel, by decide +kernel⟩
abbrev s_answer_change : Stmt := top 100
abbrev N_answer_change : List Str := ["network", "call", "numbers"]
theorem sc_answer_change : FnScope N_answer_change ["network", "call"] (defScope s_answer_change) := ⟨rfl, rfl, rfl, by decide +kernel, rfl, by decide +kernel, by decide +kernel⟩
abbrev s_answer_plan : Stmt := top 101
abbrev N_answer_plan : List Str := ["network", "call"]
theorem sc_answer_plan : FnScope N_answer_plan ["network", "call"] (defScope s_answer_plan) := ⟨rfl, rfl, rfl, by decide +kernel, rfl, by decide +kernel, by decide +kernel⟩
abbrev s_answer_question : Stmt := top 102
abbrev N_answer_question : List Str := ["network", "call"]
theorem sc_answer_question : FnScope N_answer_question ["network", "call"] (defScope s_answer_question) := ⟨rfl, rfl, rfl, by decide +kernel, rfl, by decide +kernel, by decide +kernel⟩
abbrev s_answers : Stmt := top 103
abbrev N_answers : List Str := ["calls", "instance", "told", "call", "answered"]
theorem sc_answers : FnScope N_answers ["calls"] (defScope s_answers) := ⟨rfl, rfl, rfl, by decide +kernel, rfl, by decide +kernel, by decide +kernel⟩
/-- where the classes stand -/
structure Adr where
  cLink : Addr
  cPath : Addr
  cFlow : Addr
  cNetwork : Addr
  cCall : Addr
  cInstance : Addr
/-- what the top has written: constants, names of Python's own that nobody binds, classes -/
structure Txt (K : PySem.W.Frag) (mg : Str → Option Value) (A : Adr) : Prop where
  c_MISSING : ∃ u, mg "MISSING" = some u ∧ RelV (.int (-2)) u
  c_INACTIVE : ∃ u, mg "INACTIVE" = some u ∧ RelV (.int (-6)) u
  c_NO_NETWORK : ∃ u, mg "NO_NETWORK" = some u ∧ RelV (.int (-11)) u
  c_TAKEN : ∃ u, mg "TAKEN" = some u ∧ RelV (.int (-17)) u
  c_INVALID : ∃ u, mg "INVALID" = some u ∧ RelV (.int (-22)) u
  c_LIMIT_REACHED : ∃ u, mg "LIMIT_REACHED" = some u ∧ RelV (.int (-28)) u
  c_NO_ROOM : ∃ u, mg "NO_ROOM" = some u ∧ RelV (.int (-33)) u
  c_NO_PLAN : ∃ u, mg "NO_PLAN" = some u ∧ RelV (.int (-33)) u
  c_INFEASIBLE : ∃ u, mg "INFEASIBLE" = some u ∧ RelV (.int (-35)) u
  c_LEAST_NODES : ∃ u, mg "LEAST_NODES" = some u ∧ RelV (.int (2)) u
  c_MOST_NODES : ∃ u, mg "MOST_NODES" = some u ∧ RelV (.int (6)) u
  c_MOST_LINKS : ∃ u, mg "MOST_LINKS" = some u ∧ RelV (.int (10)) u
  c_MOST_CAPACITY : ∃ u, mg "MOST_CAPACITY" = some u ∧ RelV (.int (99)) u
  c_MOST_FLOWS : ∃ u, mg "MOST_FLOWS" = some u ∧ RelV (.int (5)) u
  c_LEAST_DEMAND : ∃ u, mg "LEAST_DEMAND" = some u ∧ RelV (.int (1)) u
  c_MOST_DEMAND : ∃ u, mg "MOST_DEMAND" = some u ∧ RelV (.int (99)) u
  c_MOST_PATHS : ∃ u, mg "MOST_PATHS" = some u ∧ RelV (.int (3)) u
  c_CREATE_NETWORK : ∃ u, mg "CREATE_NETWORK" = some u ∧ RelV (.int (0)) u
  c_ADD_LINK : ∃ u, mg "ADD_LINK" = some u ∧ RelV (.int (1)) u
  c_ADD_FLOW : ∃ u, mg "ADD_FLOW" = some u ∧ RelV (.int (2)) u
  c_ADD_PATH : ∃ u, mg "ADD_PATH" = some u ∧ RelV (.int (3)) u
  c_PLACE_FLOW : ∃ u, mg "PLACE_FLOW" = some u ∧ RelV (.int (4)) u
  c_STOP_FLOW : ∃ u, mg "STOP_FLOW" = some u ∧ RelV (.int (5)) u
  c_MOVE_FLOW : ∃ u, mg "MOVE_FLOW" = some u ∧ RelV (.int (6)) u
  c_SET_CAPACITY : ∃ u, mg "SET_CAPACITY" = some u ∧ RelV (.int (7)) u
  c_LINK_LOADS : ∃ u, mg "LINK_LOADS" = some u ∧ RelV (.int (8)) u
  c_ASSIGNMENT : ∃ u, mg "ASSIGNMENT" = some u ∧ RelV (.int (9)) u
  c_ALLOWED_MOVES : ∃ u, mg "ALLOWED_MOVES" = some u ∧ RelV (.int (10)) u
  c_PLAN_TO : ∃ u, mg "PLAN_TO" = some u ∧ RelV (.int (11)) u
  c_PLAN_LINK_DRAIN : ∃ u, mg "PLAN_LINK_DRAIN" = some u ∧ RelV (.int (12)) u
  c_PLAN_NODE_DRAIN : ∃ u, mg "PLAN_NODE_DRAIN" = some u ∧ RelV (.int (13)) u
  c_DRAIN_LINK : ∃ u, mg "DRAIN_LINK" = some u ∧ RelV (.int (14)) u
  c_REACHABLE_COUNT : ∃ u, mg "REACHABLE_COUNT" = some u ∧ RelV (.int (15)) u
  c_COMPONENT_COUNT : ∃ u, mg "COMPONENT_COUNT" = some u ∧ RelV (.int (16)) u
  c_STUCK_FLOWS : ∃ u, mg "STUCK_FLOWS" = some u ∧ RelV (.int (17)) u
  c_FLOW_PATHS : ∃ u, mg "FLOW_PATHS" = some u ∧ RelV (.int (18)) u
  c_NUMBER_COUNTS : ∃ t, (∃ u, mg "NUMBER_COUNTS" = some u ∧ RelV (.ref t) u) ∧ ∀ H, SqT K H t [.int 1, .int 3, .int 3, .int 1, .int 2, .int 1, .int 2, .int 2, .int 0, .int 0, .int 0, .int 0, .int 1, .int 1, .int 1, .int 0, .int 0, .int 1, .int 1, .int 0]
  b_len : mg "len" = none
  b_set : mg "set" = none
  b_zip : mg "zip" = none
  b_enumerate : mg "enumerate" = none
  b_any : mg "any" = none
  b_all : mg "all" = none
  b_tuple : mg "tuple" = none
  b_list : mg "list" = none
  b_range : mg "range" = none
  kLink : Cls K A.cLink
  nLink_node_a : NoAttr K A.cLink "node_a"
  nLink_node_b : NoAttr K A.cLink "node_b"
  nLink_capacity : NoAttr K A.cLink "capacity"
  kPath : Cls K A.cPath
  nPath_nodes : NoAttr K A.cPath "nodes"
  nPath_links : NoAttr K A.cPath "links"
  kFlow : Cls K A.cFlow
  nFlow_source : NoAttr K A.cFlow "source"
  nFlow_destination : NoAttr K A.cFlow "destination"
  nFlow_demand : NoAttr K A.cFlow "demand"
  nFlow_paths : NoAttr K A.cFlow "paths"
  kNetwork : Cls K A.cNetwork
  nNetwork_node_count : NoAttr K A.cNetwork "node_count"
  nNetwork_links : NoAttr K A.cNetwork "links"
  nNetwork_flows : NoAttr K A.cNetwork "flows"
  nNetwork_assignment : NoAttr K A.cNetwork "assignment"
  kCall : Cls K A.cCall
  nCall_operation : NoAttr K A.cCall "operation"
  nCall_numbers : NoAttr K A.cCall "numbers"
  nCall_row : NoAttr K A.cCall "row"
  kInstance : Cls K A.cInstance
  nInstance_network : NoAttr K A.cInstance "network"
end Fm

set_option Elab.async false
set_option linter.all false
set_option maxRecDepth 100000
set_option maxHeartbeats 4000000
/-! How a network lies in the heap. -/
namespace Fm
open C8 (pe_c pe_mk pe_gc)
open PySem PySem.Spec PyProof.Rows L2 Evl
abbrev nats (l : List Nat) : List V := l.map fun n => V.int ((n : Nat) : Int)
theorem nats_get {l : List Nat} {i n : Nat} (h : l[i]? = some n) : (nats l)[i]? = some (.int (n : Int)) := by
  unfold nats
  rw [List.getElem?_map, h]
  rfl
theorem nats_len (l : List Nat) : (nats l).length = l.length := List.length_map _
structure LkC where
  a : Addr
  dx : Addr
  u : Nat
  v : Nat
  c : Nat
structure PaC where
  a : Addr
  dx : Addr
  na : Addr
  la : Addr
  nodes : List Nat
  links : List Nat
structure FlC where
  a : Addr
  dx : Addr
  pa : Addr
  s : Nat
  t : Nat
  d : Nat
  paths : List PaC
structure NtC where
  a : Addr
  dx : Addr
  la : Addr
  fa : Addr
  sa : Addr
  n : Nat
  links : List LkC
  flows : List FlC
  asg : List Nat
abbrev NtC.lrefs (c : NtC) : List V := c.links.map fun l => .ref l.a
abbrev NtC.frefs (c : NtC) : List V := c.flows.map fun f => .ref f.a
abbrev FlC.prefs (f : FlC) : List V := f.paths.map fun p => .ref p.a
def LkC.spec (l : LkC) : Su203.Link := ⟨l.u, l.v, l.c⟩
def FlC.spec (f : FlC) : Su203.Flow := ⟨f.s, f.t, f.d, f.paths.map (·.links), f.paths.map (·.nodes)⟩
def NtC.spec (c : NtC) : Su203.Network := ⟨c.n, c.links.map LkC.spec, c.flows.map FlC.spec, c.asg⟩
def LkC.fs (l : LkC) : List (Str × V) := [("node_a", .int l.u), ("node_b", .int l.v), ("capacity", .int l.c)]
def PaC.fs (p : PaC) : List (Str × V) := [("nodes", .ref p.na), ("links", .ref p.la)]
def FlC.fs (f : FlC) : List (Str × V) := [("source", .int f.s), ("destination", .int f.t), ("demand", .int f.d), ("paths", .ref f.pa)]
def NtC.fs (c : NtC) : List (Str × V) := [("node_count", .int c.n), ("links", .ref c.la), ("flows", .ref c.fa), ("assignment", .ref c.sa)]
abbrev Cells := List (Addr × HO)
def LkC.cell (A : Adr) (l : LkC) : Addr × HO := (l.a, .ins A.cLink l.dx l.fs)
def PaC.cells (A : Adr) (p : PaC) : Cells := [(p.a, .ins A.cPath p.dx p.fs), (p.na, .lst (nats p.nodes)), (p.la, .lst (nats p.links))]
def FlC.cells (A : Adr) (f : FlC) : Cells := (f.a, .ins A.cFlow f.dx f.fs) :: (f.pa, .lst f.prefs) :: f.paths.flatMap (PaC.cells A)
def NtC.cells (A : Adr) (c : NtC) : Cells :=
  (c.a, .ins A.cNetwork c.dx c.fs) :: (c.la, .lst c.lrefs) :: (c.fa, .lst c.frefs) :: (c.sa, .lst (nats c.asg)) ::
    (c.links.map (LkC.cell A) ++ c.flows.flatMap (FlC.cells A))
/-- what is told of the cells is so -/
def Hold (H : Hp) (cs : Cells) : Prop := ∀ p ∈ cs, H p.1 = some p.2
theorem Hold.mono {H H' : Hp} {cs : Cells} (e : Ex H H') (h : Hold H cs) : Hold H' cs := fun p hp => e _ _ (h p hp)
theorem Hold.left {H : Hp} {cs ds : Cells} (h : Hold H (cs ++ ds)) : Hold H cs := fun p hp => h p (List.mem_append_left _ hp)
theorem Hold.right {H : Hp} {cs ds : Cells} (h : Hold H (cs ++ ds)) : Hold H ds := fun p hp => h p (List.mem_append_right _ hp)
section
variable {A : Adr} {H : Hp} {c : NtC} {K : PySem.W.Frag}
theorem NtC.hN (h : Hold H (c.cells A)) : H c.a = some (.ins A.cNetwork c.dx c.fs) := h (c.a, _) (.head _)
theorem NtC.hL (h : Hold H (c.cells A)) : H c.la = some (.lst c.lrefs) := h (c.la, _) (.tail _ (.head _))
theorem NtC.hF (h : Hold H (c.cells A)) : H c.fa = some (.lst c.frefs) := h (c.fa, _) (.tail _ (.tail _ (.head _)))
theorem NtC.hS (h : Hold H (c.cells A)) : H c.sa = some (.lst (nats c.asg)) := h (c.sa, _) (.tail _ (.tail _ (.tail _ (.head _))))
theorem NtC.rest (h : Hold H (c.cells A)) : Hold H (c.links.map (LkC.cell A) ++ c.flows.flatMap (FlC.cells A)) := fun p hp => h p (.tail _ (.tail _ (.tail _ (.tail _ hp))))
theorem NtC.hLk {i : Nat} {l : LkC} (h : Hold H (c.cells A)) (hi : c.links[i]? = some l) : H l.a = some (.ins A.cLink l.dx l.fs) :=
  (NtC.rest h).left (l.cell A) (List.mem_map_of_mem (List.mem_of_getElem? hi))
theorem NtC.hFl {i : Nat} {f : FlC} (h : Hold H (c.cells A)) (hi : c.flows[i]? = some f) : Hold H (f.cells A) := fun p hp =>
  (NtC.rest h).right p (List.mem_flatMap.mpr ⟨f, List.mem_of_getElem? hi, hp⟩)
theorem FlC.hA {f : FlC} (h : Hold H (f.cells A)) : H f.a = some (.ins A.cFlow f.dx f.fs) := h (f.a, _) (.head _)
theorem FlC.hP {f : FlC} (h : Hold H (f.cells A)) : H f.pa = some (.lst f.prefs) := h (f.pa, _) (.tail _ (.head _))
theorem FlC.hPa {f : FlC} {j : Nat} {p : PaC} (h : Hold H (f.cells A)) (hj : f.paths[j]? = some p) : Hold H (p.cells A) := fun q hq =>
  h q (.tail _ (.tail _ (List.mem_flatMap.mpr ⟨p, List.mem_of_getElem? hj, hq⟩)))
theorem PaC.hA {p : PaC} (h : Hold H (p.cells A)) : H p.a = some (.ins A.cPath p.dx p.fs) := h (p.a, _) (.head _)
theorem PaC.hN {p : PaC} (h : Hold H (p.cells A)) : H p.na = some (.lst (nats p.nodes)) := h (p.na, _) (.tail _ (.head _))
theorem PaC.hL {p : PaC} (h : Hold H (p.cells A)) : H p.la = some (.lst (nats p.links)) := h (p.la, _) (.tail _ (.tail _ (.head _)))
end
/-! ### fields by name -/
theorem lk_here {k : Str} {v : V} {r : List (Str × V)} : List.lookup k ((k, v) :: r) = some v := by
  have e : (k == k) = true := beq_self_eq_true k
  simp only [List.lookup, e]
theorem lk_past {k g : Str} {v : V} {r : List (Str × V)} (h : (k == g) = false) : List.lookup k ((g, v) :: r) = List.lookup k r := by
  simp only [List.lookup, h]
theorem lk_past1 {k g : Str} {v x : V} {r : List (Str × V)} (h : (k == g) = false) (q : List.lookup k r = some x) : List.lookup k ((g, v) :: r) = some x := (lk_past h).trans q
theorem LkC.f0 (l : LkC) : l.fs.lookup ("node_a" : Str) = some (.int l.u) := lk_here
theorem LkC.f1 (l : LkC) : l.fs.lookup ("node_b" : Str) = some (.int l.v) := lk_past1 (by decide +kernel) lk_here
theorem LkC.f2 (l : LkC) : l.fs.lookup ("capacity" : Str) = some (.int l.c) := lk_past1 (by decide +kernel) (lk_past1 (by decide +kernel) lk_here)
theorem PaC.f0 (p : PaC) : p.fs.lookup ("nodes" : Str) = some (.ref p.na) := lk_here
theorem PaC.f1 (p : PaC) : p.fs.lookup ("links" : Str) = some (.ref p.la) := lk_past1 (by decide +kernel) lk_here
theorem FlC.f0 (f : FlC) : f.fs.lookup ("source" : Str) = some (.int f.s) := lk_here
theorem FlC.f1 (f : FlC) : f.fs.lookup ("destination" : Str) = some (.int f.t) := lk_past1 (by decide +kernel) lk_here
theorem FlC.f2 (f : FlC) : f.fs.lookup ("demand" : Str) = some (.int f.d) := lk_past1 (by decide +kernel) (lk_past1 (by decide +kernel) lk_here)
theorem FlC.f3 (f : FlC) : f.fs.lookup ("paths" : Str) = some (.ref f.pa) := lk_past1 (by decide +kernel) (lk_past1 (by decide +kernel) (lk_past1 (by decide +kernel) lk_here))
theorem NtC.f0 (c : NtC) : c.fs.lookup ("node_count" : Str) = some (.int c.n) := lk_here
theorem NtC.f1 (c : NtC) : c.fs.lookup ("links" : Str) = some (.ref c.la) := lk_past1 (by decide +kernel) lk_here
theorem NtC.f2 (c : NtC) : c.fs.lookup ("flows" : Str) = some (.ref c.fa) := lk_past1 (by decide +kernel) (lk_past1 (by decide +kernel) lk_here)
theorem NtC.f3 (c : NtC) : c.fs.lookup ("assignment" : Str) = some (.ref c.sa) := lk_past1 (by decide +kernel) (lk_past1 (by decide +kernel) (lk_past1 (by decide +kernel) lk_here))
section
variable {K : PySem.W.Frag} {mg : Str → Option Value} {A : Adr} (T : Txt K mg A) {H : Hp} {σ : L2.St} {c : NtC} {ta : TE} {l : LkC} {f : FlC} {p : PaC} {i : Nat}
include T
theorem evN0 (h : Hold H (c.cells A)) (e : Ev ta σ H (.ref c.a)) : Ev (tFld K ta "node_count") σ H (.int c.n) := ev_fld e (NtC.hN h) T.kNetwork T.nNetwork_node_count c.f0
theorem evN1 (h : Hold H (c.cells A)) (e : Ev ta σ H (.ref c.a)) : Ev (tFld K ta "links") σ H (.ref c.la) := ev_fld e (NtC.hN h) T.kNetwork T.nNetwork_links c.f1
theorem evN2 (h : Hold H (c.cells A)) (e : Ev ta σ H (.ref c.a)) : Ev (tFld K ta "flows") σ H (.ref c.fa) := ev_fld e (NtC.hN h) T.kNetwork T.nNetwork_flows c.f2
theorem evN3 (h : Hold H (c.cells A)) (e : Ev ta σ H (.ref c.a)) : Ev (tFld K ta "assignment") σ H (.ref c.sa) := ev_fld e (NtC.hN h) T.kNetwork T.nNetwork_assignment c.f3
theorem evL0 (h : H l.a = some (.ins A.cLink l.dx l.fs)) (e : Ev ta σ H (.ref l.a)) : Ev (tFld K ta "node_a") σ H (.int l.u) := ev_fld e h T.kLink T.nLink_node_a l.f0
theorem evL1 (h : H l.a = some (.ins A.cLink l.dx l.fs)) (e : Ev ta σ H (.ref l.a)) : Ev (tFld K ta "node_b") σ H (.int l.v) := ev_fld e h T.kLink T.nLink_node_b l.f1
theorem evL2 (h : H l.a = some (.ins A.cLink l.dx l.fs)) (e : Ev ta σ H (.ref l.a)) : Ev (tFld K ta "capacity") σ H (.int l.c) := ev_fld e h T.kLink T.nLink_capacity l.f2
theorem evF0 (h : Hold H (f.cells A)) (e : Ev ta σ H (.ref f.a)) : Ev (tFld K ta "source") σ H (.int f.s) := ev_fld e (FlC.hA h) T.kFlow T.nFlow_source f.f0
theorem evF1 (h : Hold H (f.cells A)) (e : Ev ta σ H (.ref f.a)) : Ev (tFld K ta "destination") σ H (.int f.t) := ev_fld e (FlC.hA h) T.kFlow T.nFlow_destination f.f1
theorem evF2 (h : Hold H (f.cells A)) (e : Ev ta σ H (.ref f.a)) : Ev (tFld K ta "demand") σ H (.int f.d) := ev_fld e (FlC.hA h) T.kFlow T.nFlow_demand f.f2
theorem evF3 (h : Hold H (f.cells A)) (e : Ev ta σ H (.ref f.a)) : Ev (tFld K ta "paths") σ H (.ref f.pa) := ev_fld e (FlC.hA h) T.kFlow T.nFlow_paths f.f3
theorem evP0 (h : Hold H (p.cells A)) (e : Ev ta σ H (.ref p.a)) : Ev (tFld K ta "nodes") σ H (.ref p.na) := ev_fld e (PaC.hA h) T.kPath T.nPath_nodes p.f0
theorem evP1 (h : Hold H (p.cells A)) (e : Ev ta σ H (.ref p.a)) : Ev (tFld K ta "links") σ H (.ref p.la) := ev_fld e (PaC.hA h) T.kPath T.nPath_links p.f1
end
/-! ### natural numbers -/
section
variable {σ : L2.St} {H : Hp} {ta tb : TE} {a b : Nat} {K : PySem.W.Frag}
theorem ev_nat (n : Nat) : Ev (tC (.int (n : Int))) σ H (.int (n : Int)) := ev_c
theorem ev_subN (ha : Ev ta σ H (.int (a : Int))) (hb : Ev tb σ H (.int (b : Int))) (h : b ≤ a) : Ev (tOp (rI0 fun i j => .int (i - j)) ta tb) σ H (.int ((a - b : Nat) : Int)) := by
  have r := ev_I0 (g := fun i j => .int (i - j)) ha hb
  rw [← Int.ofNat_sub h] at r
  exact r
theorem ev_addN (ha : Ev ta σ H (.int (a : Int))) (hb : Ev tb σ H (.int (b : Int))) : Ev (tOp (rI0 fun i j => .int (i + j)) ta tb) σ H (.int ((a + b : Nat) : Int)) := ev_I0 (g := fun i j => .int (i + j)) ha hb
theorem dec_ltI (a b : Nat) : decide ((a : Int) < (b : Int)) = decide (a < b) := by
  by_cases h : a < b
  · rw [decide_eq_true h, decide_eq_true (by omega)]
  · rw [decide_eq_false h, decide_eq_false (by omega)]
theorem dec_leI (a b : Nat) : decide ((a : Int) ≤ (b : Int)) = decide (a ≤ b) := by
  by_cases h : a ≤ b
  · rw [decide_eq_true h, decide_eq_true (by omega)]
  · rw [decide_eq_false h, decide_eq_false (by omega)]
theorem dec_eqI (a b : Nat) : decide (V.int (a : Int) = V.int (b : Int)) = decide (a = b) := by
  by_cases h : a = b
  · rw [decide_eq_true h, decide_eq_true (by rw [h])]
  · rw [decide_eq_false h, decide_eq_false (fun z => h (by have := V.int.inj z; omega))]
theorem ev_ltN (ha : Ev ta σ H (.int (a : Int))) (hb : Ev tb σ H (.int (b : Int))) : Ev (tOp (rI0 fun i j => .bl (decide (i < j))) ta tb) σ H (.bl (decide (a < b))) := by
  rw [← dec_ltI]
  exact ev_I0 (g := fun i j => .bl (decide (i < j))) ha hb
theorem ev_gtN (ha : Ev ta σ H (.int (a : Int))) (hb : Ev tb σ H (.int (b : Int))) : Ev (tOp (rI0 fun i j => .bl (decide (j < i))) ta tb) σ H (.bl (decide (b < a))) := by
  rw [← dec_ltI]
  exact ev_I0 (g := fun i j => .bl (decide (j < i))) ha hb
theorem ev_leN (ha : Ev ta σ H (.int (a : Int))) (hb : Ev tb σ H (.int (b : Int))) : Ev (tOp (rI0 fun i j => .bl (decide (i ≤ j))) ta tb) σ H (.bl (decide (a ≤ b))) := by
  rw [← dec_leI]
  exact ev_I0 (g := fun i j => .bl (decide (i ≤ j))) ha hb
theorem ev_geN (ha : Ev ta σ H (.int (a : Int))) (hb : Ev tb σ H (.int (b : Int))) : Ev (tOp (rI0 fun i j => .bl (decide (j ≤ i))) ta tb) σ H (.bl (decide (b ≤ a))) := by
  rw [← dec_leI]
  exact ev_I0 (g := fun i j => .bl (decide (j ≤ i))) ha hb
theorem ev_eqN (ha : Ev ta σ H (.int (a : Int))) (hb : Ev tb σ H (.int (b : Int))) : Ev (tOp rEq ta tb) σ H (.bl (decide (a = b))) := by
  rw [← dec_eqI]
  exact ev_eq ha hb rfl
theorem ev_neN (ha : Ev ta σ H (.int (a : Int))) (hb : Ev tb σ H (.int (b : Int))) : Ev (tOp rNe ta tb) σ H (.bl (!decide (a = b))) := by
  rw [← dec_eqI]
  exact ev_op ha hb (rv_ne rfl)
theorem ev_lenN' {α : Type} {ys : List α} {g : α → V} {p : Addr} (ha : Ev ta σ H (.ref p)) (h : SqL K H p (ys.map g)) : Ev (tCB (rLenS K) (tCons ta tNil)) σ H (.int (ys.length : Int)) := by
  have r := ev_lenS (K := K) ha (.inl h)
  rw [List.length_map] at r
  exact r
theorem ev_ixR {α : Type} {ys : List α} {g : α → Addr} {p : Addr} {j : Nat} {y : α} (ha : Ev ta σ H (.ref p)) (hb : Ev tb σ H (.int (j : Int))) (h : SqL K H p (ys.map fun y => .ref (g y))) (hj : ys[j]? = some y) : Ev (tOp (rIxL K) ta tb) σ H (.ref (g y)) :=
  ev_ixL ha hb h (by rw [List.getElem?_map, hj] <;> rfl)
theorem ev_ixN {ys : List Nat} {p : Addr} {j : Nat} {y : Nat} (ha : Ev ta σ H (.ref p)) (hb : Ev tb σ H (.int (j : Int))) (h : SqL K H p (nats ys)) (hj : ys[j]? = some y) : Ev (tOp (rIxL K) ta tb) σ H (.int (y : Int)) :=
  ev_ixL ha hb h (nats_get hj)
end
theorem refs_get {α : Type} {l : List α} {g : α → Addr} {i : Nat} {x : V} (h : (l.map fun y => V.ref (g y))[i]? = some x) : ∃ y, l[i]? = some y ∧ x = .ref (g y) := by
  rw [List.getElem?_map] at h
  cases e : l[i]? with
  | none =>
    rw [e] at h
    cases h
  | some y =>
    rw [e] at h
    exact ⟨y, rfl, (Option.some.inj h).symm⟩
theorem nats_at {l : List Nat} {i : Nat} {x : V} (h : (nats l)[i]? = some x) : ∃ n, l[i]? = some n ∧ x = .int (n : Int) := by
  unfold nats at h
  rw [List.getElem?_map] at h
  cases e : l[i]? with
  | none =>
    rw [e] at h
    cases h
  | some y =>
    rw [e] at h
    exact ⟨y, rfl, (Option.some.inj h).symm⟩
theorem map_get {α β : Type} {l : List α} {g : α → β} {i : Nat} {y : α} (h : l[i]? = some y) : (l.map g)[i]? = some (g y) := by
  rw [List.getElem?_map, h]
  rfl
end Fm

set_option Elab.async false
set_option linter.all false
set_option maxRecDepth 100000
set_option maxHeartbeats 4000000
/-! Readers of the network: has_node, has_link, has_flow, has_path, link_between. -/
namespace Fm
open C8 (pe_c pe_mk pe_gc)
open PySem PySem.Spec PyProof.Rows L2 Evl
def optV : Option Nat → V
  | some n => .int (n : Int)
  | none => .non
section
variable {P : Program} {w : World} {K : PySem.W.Frag} {mg : Str → Option Value} {base : Heap} {A : Adr}
/-! ### has_node -/
def sp_has_node (A : Adr) : Sp := fun vs H Q _ => ∃ (c : NtC) (v : Nat), vs = [.ref c.a, .int v] ∧ Hold H (c.cells A) ∧ RetV (.bl (decide (v < c.n))) H Q
theorem dec_lt (a b : Nat) : decide ((a : Int) < (b : Int)) = decide (a < b) := by
  by_cases h : a < b
  · rw [decide_eq_true h, decide_eq_true (by omega)]
  · rw [decide_eq_false h, decide_eq_false (by omega)]
theorem use_has_node {H : Hp} {c : NtC} {v : Nat} (h : Hold H (c.cells A)) : SpV (sp_has_node A) [.ref c.a, .int v] H (.bl (decide (v < c.n))) := fun _ e _ q _ => ⟨c, v, rfl, h.mono e, q⟩
theorem ok_has_node (T : Txt K mg A) {f : Addr} {fd : FuncData} (F : Fun K "has_node" "has_node" s_has_node f fd) (g : mg "has_node" = some (.ref f)) (b : Binds K fd ["network", "node"] []) : Cal P w K mg base 1 "has_node" (sp_has_node A) := by
  refine ⟨f, fd, _, [], F.ok sc_has_node (fun vs H Q E h => ?_) (fun cdv A' outer s H vs Q E hr h => ?_), g, F.kp, b, .nil⟩
  · obtain ⟨c, v, rfl, _⟩ := h
    rfl
  · obtain ⟨c, v, rfl, hc, k⟩ := h
    refine ⟨_, (pss_one (ps_ret (pe_cmpR op_lt (pv 1) (pe_fld (pv 0) rfl) (nomark _)))), ?_⟩
    refine s_ret (ev_I0 (ev_var rfl) (evN0 T hc (ev_var rfl))) fun H1 e1 => ?_
    rw [dec_lt]
    exact k H1 e1
/-! ### has_link, has_flow -/
def sp_has_link (A : Adr) : Sp := fun vs H Q _ => ∃ (c : NtC) (v : Nat), vs = [.ref c.a, .int v] ∧ Hold H (c.cells A) ∧ RetV (.bl (decide (v < c.links.length))) H Q
theorem use_has_link {H : Hp} {c : NtC} {v : Nat} (h : Hold H (c.cells A)) : SpV (sp_has_link A) [.ref c.a, .int v] H (.bl (decide (v < c.links.length))) := fun _ e _ q _ => ⟨c, v, rfl, h.mono e, q⟩
theorem ok_has_link (T : Txt K mg A) {f : Addr} {fd : FuncData} (F : Fun K "has_link" "has_link" s_has_link f fd) (g : mg "has_link" = some (.ref f)) (b : Binds K fd ["network", "link"] []) : Cal P w K mg base 1 "has_link" (sp_has_link A) := by
  refine ⟨f, fd, _, [], F.ok sc_has_link (fun vs H Q E h => ?_) (fun cdv A' outer s H vs Q E hr h => ?_), g, F.kp, b, .nil⟩
  · obtain ⟨c, v, rfl, _⟩ := h
    rfl
  · obtain ⟨c, v, rfl, hc, k⟩ := h
    refine ⟨_, (pss_one (ps_ret (pe_cmpR op_lt (pv 1) (pe_callB call_len_seq (by rfl) T.b_len PySem.boot_len (pa_cons (pe_fld (pv 0) rfl) pa_nil)) (nomark _)))), ?_⟩
    refine s_ret (ev_I0 (ev_var rfl) (ev_lenS (evN1 T hc (ev_var rfl)) (.inl (sq_of (NtC.hL hc))))) fun H1 e1 => ?_
    rw [dec_lt, List.length_map]
    exact k H1 e1
def sp_has_flow (A : Adr) : Sp := fun vs H Q _ => ∃ (c : NtC) (v : Nat), vs = [.ref c.a, .int v] ∧ Hold H (c.cells A) ∧ RetV (.bl (decide (v < c.flows.length))) H Q
theorem use_has_flow {H : Hp} {c : NtC} {v : Nat} (h : Hold H (c.cells A)) : SpV (sp_has_flow A) [.ref c.a, .int v] H (.bl (decide (v < c.flows.length))) := fun _ e _ q _ => ⟨c, v, rfl, h.mono e, q⟩
theorem ok_has_flow (T : Txt K mg A) {f : Addr} {fd : FuncData} (F : Fun K "has_flow" "has_flow" s_has_flow f fd) (g : mg "has_flow" = some (.ref f)) (b : Binds K fd ["network", "flow"] []) : Cal P w K mg base 1 "has_flow" (sp_has_flow A) := by
  refine ⟨f, fd, _, [], F.ok sc_has_flow (fun vs H Q E h => ?_) (fun cdv A' outer s H vs Q E hr h => ?_), g, F.kp, b, .nil⟩
  · obtain ⟨c, v, rfl, _⟩ := h
    rfl
  · obtain ⟨c, v, rfl, hc, k⟩ := h
    refine ⟨_, (pss_one (ps_ret (pe_cmpR op_lt (pv 1) (pe_callB call_len_seq (by rfl) T.b_len PySem.boot_len (pa_cons (pe_fld (pv 0) rfl) pa_nil)) (nomark _)))), ?_⟩
    refine s_ret (ev_I0 (ev_var rfl) (ev_lenS (evN2 T hc (ev_var rfl)) (.inl (sq_of (NtC.hF hc))))) fun H1 e1 => ?_
    rw [dec_lt, List.length_map]
    exact k H1 e1
/-! ### has_path -/
def pathCount (c : NtC) (f : Nat) : Nat := match c.flows[f]? with
  | some g => g.paths.length
  | none => 0
def sp_has_path (A : Adr) : Sp := fun vs H Q _ => ∃ (c : NtC) (f p : Nat), vs = [.ref c.a, .int f, .int p] ∧ Hold H (c.cells A) ∧ RetV (.bl (decide (p < pathCount c f))) H Q
theorem use_has_path {H : Hp} {c : NtC} {f p : Nat} (h : Hold H (c.cells A)) : SpV (sp_has_path A) [.ref c.a, .int f, .int p] H (.bl (decide (p < pathCount c f))) := fun _ e _ q _ => ⟨c, f, p, rfl, h.mono e, q⟩
theorem ok_has_path (T : Txt K mg A) (k_has_flow : Cal P w K mg base 1 "has_flow" (sp_has_flow A)) {f : Addr} {fd : FuncData} (F : Fun K "has_path" "has_path" s_has_path f fd) (g : mg "has_path" = some (.ref f)) (b : Binds K fd ["network", "flow", "path"] []) : Cal P w K mg base 2 "has_path" (sp_has_path A) := by
  refine ⟨f, fd, _, [], F.ok sc_has_path (fun vs H Q E h => ?_) (fun cdv A' outer s H vs Q E hr h => ?_), g, F.kp, b, .nil⟩
  · obtain ⟨c, v, x, rfl, _⟩ := h
    rfl
  · obtain ⟨c, i, j, rfl, hc, k⟩ := h
    refine ⟨_, (pss_one (ps_ret (pe_and (pe_c k_has_flow hr (by decide) rfl (pa_cons (pv 0) (pa_cons (pv 1) pa_nil))) (pe_one (pe_cmpR op_lt (pv 2) (pe_callB call_len_seq (by rfl) T.b_len PySem.boot_len (pa_cons (pe_fld (pe_ix ix_list (pe_fld (pv 0) rfl) (pv 1) (fun _ _ => rfl)) rfl) pa_nil)) (nomark _)))))), ?_⟩
    refine s_ret (ev_andV (b := decide (j < pathCount c i)) (ev_call (ea_cons (ev_var rfl) (ea_cons (ev_var rfl) ea_nil)) (use_has_flow hc)) fun hi => ?_) fun H1 e1 => ?_
    · have hi' : i < c.flows.length := of_decide_eq_true hi
      have gi : c.flows[i]? = some c.flows[i] := List.getElem?_eq_getElem hi'
      have hf := NtC.hFl hc gi
      have r := ev_I0 (g := fun i j => .bl (decide (i < j))) (ev_var (i := 2) (σ := [some (.ref c.a), some (.int i), some (.int j)]) rfl) (ev_lenS (K := K) (evF3 T hf (ev_ixL (K := K) (evN2 T hc (ev_var (i := 0) rfl)) (ev_var (i := 1) rfl) (sq_of (NtC.hF hc)) (map_get gi))) (.inl (sq_of (FlC.hP hf))))
      rw [dec_lt, List.length_map] at r
      unfold pathCount
      rw [gi]
      exact r
    · have e : (decide (i < c.flows.length) && decide (j < pathCount c i)) = decide (j < pathCount c i) := by
        by_cases h : i < c.flows.length
        · rw [decide_eq_true h, Bool.true_and]
        · have h0 : pathCount c i = 0 := by
            unfold pathCount
            rw [List.getElem?_eq_none (by omega)]
          rw [h0, decide_eq_false h]
          rfl
      rw [e]
      exact k H1 e1
/-! ### link_between -/
def ends (u v : Nat) (l : Su203.Link) : Bool := (l.endA == u && l.endB == v) || (l.endA == v && l.endB == u)
def sp_link_between (A : Adr) : Sp := fun vs H Q _ => ∃ (c : NtC) (u v : Nat), vs = [.ref c.a, .int u, .int v] ∧ Hold H (c.cells A) ∧ RetV (optV (c.spec.linkBetween u v)) H Q
theorem use_link_between {H : Hp} {c : NtC} {u v : Nat} (h : Hold H (c.cells A)) : SpV (sp_link_between A) [.ref c.a, .int u, .int v] H (optV (c.spec.linkBetween u v)) := fun _ e _ q _ => ⟨c, u, v, rfl, h.mono e, q⟩
def pairD (a b : Int) : PyData := .tuple [.int a, .int b]
theorem dp_pair {H : Hp} {p : Addr} {a b : Int} (h : H p = some (.tup [.int a, .int b])) : Dp K H (.ref p) (pairD a b) := .tup (SqT.of h) (.cons (.int a) (.cons (.int b) .nil))
theorem cast_beq (a b : Nat) : ((a : Int) == (b : Int)) = (a == b) := by
  rw [Bool.eq_iff_iff]
  simp [Int.natCast_inj]
theorem eqv_pair (a b x y : Nat) : PyData.eqv (pairD x y) (pairD a b) = (x == a && y == b) := by
  show (((x : Int) == (a : Int)) && (((y : Int) == (b : Int)) && true)) = _
  rw [Bool.and_true, cast_beq, cast_beq]
theorem find_step {l : List Su203.Link} {q : Su203.Link → Bool} {i : Nat} {y : Su203.Link} (h : l[i]? = some y) (hn : ∀ j z, j < i → l[j]? = some z → q z = false) (hy : q y = true) : l.findIdx? q = some i := by
  rw [List.findIdx?_eq_some_iff_getElem]
  obtain ⟨hi, e⟩ := List.getElem?_eq_some_iff.mp h
  refine ⟨hi, by rw [e]; exact hy, fun j hj => ?_⟩
  have := hn j l[j] hj (List.getElem?_eq_getElem (by omega))
  simp [this]
theorem find_none {l : List Su203.Link} {q : Su203.Link → Bool} (hn : ∀ (j : Nat) z, l[j]? = some z → q z = false) : l.findIdx? q = none := by
  rw [List.findIdx?_eq_none_iff]
  intro x hx
  obtain ⟨j, hj⟩ := List.mem_iff_getElem?.mp hx
  exact hn j x hj
theorem ok_link_between (T : Txt K mg A) {f : Addr} {fd : FuncData} (F : Fun K "link_between" "link_between" s_link_between f fd) (g : mg "link_between" = some (.ref f)) (b : Binds K fd ["network", "node_a", "node_b"] []) : Cal P w K mg base 1 "link_between" (sp_link_between A) := by
  refine ⟨f, fd, _, [], F.ok sc_link_between (fun vs H Q E h => ?_) (fun cdv A' outer s H vs Q E hr h => ?_), g, F.kp, b, .nil⟩
  · obtain ⟨c, v, x, rfl, _⟩ := h
    rfl
  · obtain ⟨c, u, v, rfl, hc, k⟩ := h
    refine ⟨_, (pss_cons (ps_for PassesOwn.never rfl (pi_enum (by rfl) T.b_enumerate (pa_cons (pe_fld (pv 0) rfl) pa_nil)) (pg_tup rfl (pgs_cons (pg_name (i := 3) sc_link_between.nd rfl (.inl rfl)) (pgs_cons (pg_name (i := 4) sc_link_between.nd rfl (.inl rfl)) pgs_nil))) (pss_one (ps_if (pt_cmpR (op_inU (hu65 hr)) (pe_tup (pa_cons (pv 1) (pa_cons (pv 2) pa_nil))) (pe_tup (pa_cons (pe_tup (pa_cons (pe_fld (pv 4) rfl) (pa_cons (pe_fld (pv 4) rfl) pa_nil))) (pa_cons (pe_tup (pa_cons (pe_fld (pv 4) rfl) (pa_cons (pe_fld (pv 4) rfl) pa_nil))) pa_nil))) (by rfl)) (pss_one (ps_ret (pv 3))) pss_nil))) (pss_one (ps_ret pe_non))), ?_⟩
    refine q_forE (xs := c.lrefs) (ea_cons (evN1 T hc (ev_var rfl)) ea_nil) (sq_of (NtC.hL hc)) (fun i σ' H' => Ex H H' ∧ (∃ y3 y4, σ' = [some (.ref c.a), some (.int u), some (.int v), y3, y4]) ∧ ∀ j l, j < i → c.links[j]? = some l → ends u v l.spec = false)
      (fun H1 e1 => ⟨e1, ⟨none, none, rfl⟩, fun j l hj => absurd hj (Nat.not_lt_zero _)⟩) (fun i σ' H' p => sq_of (p.1 _ _ (NtC.hL hc))) ?_ ?_
    · rintro i x σ' H' hx ⟨e', ⟨y3, y4, rfl⟩, hno⟩ H1 e1
      obtain ⟨l, hl, rfl⟩ := refs_get hx
      have e2 := e'.trans e1
      have hL : H1 l.a = some (.ins A.cLink l.dx l.fs) := e2 _ _ (NtC.hLk hc hl)
      -- the two tuples, each made new
      have t1 : EvU (tTup (tCons (tVar 1) (tCons (tVar 2) tNil))) [some (.ref c.a), some (.int u), some (.int v), some (.int (i : Int)), some (.ref l.a)] H1 [.int u, .int v] := eu_tup (ea_cons (ev_var rfl) (ea_cons (ev_var rfl) ea_nil)) (by show 2 ≤ 100000; decide)
      refine s_if (b := ends u v l.spec) ?_ (fun hb H2 e3 => ?_) (fun hb H2 e3 => ?_)
      · refine et_test ?_
        intro H2 e3 Q q
        refine t1 H2 e3 _ fun p H3 _ e4 hp => ?_
        have a1 : Ev (tFld K (tVar 4) "node_a") [some (.ref c.a), some (.int u), some (.int v), some (.int (i : Int)), some (.ref l.a)] H1 (.int l.u) := evL0 T hL (ev_var rfl)
        have a2 : Ev (tFld K (tVar 4) "node_b") [some (.ref c.a), some (.int u), some (.int v), some (.int (i : Int)), some (.ref l.a)] H1 (.int l.v) := evL1 T hL (ev_var rfl)
        have u1 := eu_tup (ea_cons a1 (ea_cons a2 ea_nil)) (by show 2 ≤ 100000; decide)
        have u2 := eu_tup (ea_cons a2 (ea_cons a1 ea_nil)) (by show 2 ≤ 100000; decide)
        refine eu_tup2 u1 u2 H3 (e3.trans e4) _ fun p1 p2 p3 H4 e5 hp1 hp2 hp3 => ?_
        refine ⟨pairD u v, [pairD l.u l.v, pairD l.v l.u], dp_pair (e5 _ _ hp), .tup (SqT.of hp3) (.cons (dp_pair hp1) (.cons (dp_pair hp2) .nil)), rfl, rfl, ?_⟩
        have ee : ([pairD l.u l.v, pairD l.v l.u].any fun z => PyData.eqv z (pairD u v)) = ends u v l.spec := by
          show (PyData.eqv (pairD l.u l.v) (pairD u v) || (PyData.eqv (pairD l.v l.u) (pairD u v) || false)) = _
          rw [eqv_pair, eqv_pair, Bool.or_false]
          show _ = ((l.u == u && l.v == v) || (l.u == v && l.v == u))
          rw [Bool.and_comm (l.v == u)]
        rw [ee]
        exact q _ (e4.trans e5)
      · refine s_ret (ev_var rfl) fun H3 e4 => ?_
        have hf : c.spec.linkBetween u v = some i := find_step (l := c.links.map LkC.spec) (i := i) (y := l.spec) (map_get hl) (fun j z hj hz => by
          rw [List.getElem?_map] at hz
          cases ej : c.links[j]? with
          | none =>
            rw [ej] at hz
            cases hz
          | some l' =>
            rw [ej] at hz
            rw [← Option.some.inj hz]
            exact hno j l' hj ej) hb
        have := k H3 ((e2.trans e3).trans e4)
        rw [hf] at this
        exact this
      · refine ⟨e2.trans e3, ⟨_, _, rfl⟩, fun j l' hj hl' => ?_⟩
        by_cases hji : j = i
        · subst hji
          rw [hl] at hl'
          rw [← Option.some.inj hl']
          exact hb
        · exact hno j l' (by omega) hl'
    · rintro σ' H' ⟨e', ⟨y3, y4, rfl⟩, hno⟩
      refine s_ret ev_c fun H3 e4 => ?_
      have hf : c.spec.linkBetween u v = none := find_none (l := c.links.map LkC.spec) fun j z hz => by
        rw [List.getElem?_map] at hz
        cases ej : c.links[j]? with
        | none =>
          rw [ej] at hz
          cases hz
        | some l' =>
          rw [ej] at hz
          rw [← Option.some.inj hz]
          exact hno j l' (by rw [List.length_map]; exact (List.getElem?_eq_some_iff.mp ej).1) ej
      have := k H3 (e'.trans e4)
      rw [hf] at this
      exact this
end
end Fm

set_option Elab.async false
set_option linter.all false
set_option maxRecDepth 100000
set_option maxHeartbeats 4000000
/-! links_along, loads_under, has_room, links_entered. -/
namespace Fm
open C8 (pe_c pe_mk pe_gc)
open PySem PySem.Spec PyProof.Rows L2 Evl
theorem cut1 (xs : List V) : cutV xs (some 1) none = xs.drop 1 := by
  unfold cutV
  rw [show HT.sIx xs.length 0 (some 1) = min 1 xs.length from HT.sIx_nat xs.length 0 1, HT.sIx_none]
  cases xs with
  | nil => rfl
  | cons x r =>
    rw [show min 1 (x :: r).length = 1 by
      rw [List.length_cons]
      omega]
    show (List.take ((x :: r).length - 1) r) = r
    rw [List.length_cons, Nat.add_sub_cancel]
    exact List.take_length
theorem nats_drop (ns : List Nat) (k : Nat) : (nats ns).drop k = nats (ns.drop k) := by
  unfold nats
  rw [List.map_drop]
theorem getD_of {l : List Nat} {i n : Nat} (h : l[i]? = some n) : l.getD i 0 = n := by
  rw [List.getD_eq_getElem?_getD, h]
  rfl
/-- the links between neighbours -/
def pairsB (w : Su203.Network) (ns : List Nat) : List (Option Nat) := (List.range (ns.length - 1)).map fun i => w.linkBetween (ns.getD i 0) (ns.getD (i + 1) 0)
/-- a list told by its places -/
def rowOf (n : Nat) (g : Nat → Nat) : List Nat := (List.range n).map g
theorem rowOf_len (n : Nat) (g : Nat → Nat) : (rowOf n g).length = n := by
  unfold rowOf
  rw [List.length_map, List.length_range]
theorem rowOf_get {n : Nat} {g : Nat → Nat} {j : Nat} (h : j < n) : (rowOf n g)[j]? = some (g j) := by
  unfold rowOf
  rw [List.getElem?_map, List.getElem?_range h]
  rfl
theorem rowOf_ext {n : Nat} {g h : Nat → Nat} (e : ∀ j, j < n → g j = h j) : rowOf n g = rowOf n h := by
  unfold rowOf
  exact List.map_congr_left fun j hj => e j (List.mem_range.mp hj)
theorem rowOf_set {n : Nat} {g : Nat → Nat} {k v : Nat} : (rowOf n g).set k v = rowOf n (fun j => if j = k then v else g j) := by
  refine List.ext_getElem? fun j => ?_
  rw [List.getElem?_set]
  by_cases hj : j < n
  · have hR := rowOf_get (g := fun j => if j = k then v else g j) hj
    by_cases e : k = j
    · subst e
      rw [if_pos rfl, if_pos (by rw [rowOf_len]; exact hj), hR, if_pos rfl]
    · rw [if_neg e, rowOf_get hj, hR, if_neg (fun z => e z.symm)]
  · have h1 : (rowOf n (fun j => if j = k then v else g j))[j]? = none := List.getElem?_eq_none (by rw [rowOf_len]; omega)
    have h2 : (rowOf n g)[j]? = none := List.getElem?_eq_none (by rw [rowOf_len]; omega)
    rw [h1, h2]
    split
    · rw [if_neg (by rw [rowOf_len]; omega)]
    · rfl
theorem nats_set (l : List Nat) (k v : Nat) : (nats l).set k (.int (v : Int)) = nats (l.set k v) := by
  unfold nats
  rw [List.map_set]
/-! ### what a network keeps -/
structure FlOk (n : Nat) (f : FlC) : Prop where
  few : f.paths.length ≤ 3
  nd : ∀ p ∈ f.paths, p.links.Nodup
  lt : ∀ p ∈ f.paths, ∀ k ∈ p.links, k < n
  sh : ∀ p ∈ f.paths, p.nodes.length ≤ 8 ∧ p.links.length ≤ 8
def Wf (c : NtC) : Prop := c.links.length ≤ 10 ∧ c.flows.length ≤ 5 ∧ ∀ f ∈ c.flows, FlOk c.links.length f
def Fits (c : NtC) (s : List Nat) : Prop := s.length = c.flows.length ∧ ∀ (i : Nat) (f : FlC), c.flows[i]? = some f → s.getD i 0 ≤ f.paths.length
theorem flow_of {c : NtC} {i : Nat} {f : FlC} (h : c.flows[i]? = some f) : c.spec.flow i = f.spec := by
  unfold Su203.Network.flow NtC.spec
  show (c.flows.map FlC.spec).getD i _ = _
  rw [List.getD_eq_getElem?_getD, List.getElem?_map, h]
  rfl
theorem link_of {c : NtC} {i : Nat} {l : LkC} (h : c.links[i]? = some l) : c.spec.link i = l.spec := by
  unfold Su203.Network.link NtC.spec
  show (c.links.map LkC.spec).getD i _ = _
  rw [List.getD_eq_getElem?_getD, List.getElem?_map, h]
  rfl
theorem used_zero {c : NtC} {i : Nat} : c.spec.usedLinks i 0 = [] := rfl
theorem used_of {c : NtC} {i k : Nat} {f : FlC} {p : PaC} (h : c.flows[i]? = some f) (hk : f.paths[k]? = some p) : c.spec.usedLinks i (k + 1) = p.links := by
  unfold Su203.Network.usedLinks
  rw [if_neg (Nat.succ_ne_zero k), flow_of h]
  show (f.paths.map (·.links)).getD (k + 1 - 1) [] = _
  rw [Nat.add_sub_cancel, List.getD_eq_getElem?_getD, List.getElem?_map, hk]
  rfl
def partL (c : NtC) (s : List Nat) (i j : Nat) : Nat := ((List.range i).map fun f => if (c.spec.usedLinks f (s.getD f 0)).contains j = true then (c.spec.flow f).demand else 0).sum
theorem partL_succ (c : NtC) (s : List Nat) (i j : Nat) : partL c s (i + 1) j = partL c s i j + if (c.spec.usedLinks i (s.getD i 0)).contains j = true then (c.spec.flow i).demand else 0 := by
  unfold partL
  rw [List.range_succ, List.map_append, List.sum_append]
  show _ + (_ + 0) = _
  rw [Nat.add_zero]
theorem partL_all (c : NtC) (s : List Nat) (j : Nat) : partL c s c.flows.length j = c.spec.load s j := by
  unfold partL Su203.Network.load Su203.Network.flowIndices
  show _ = (List.map _ (List.range (c.flows.map FlC.spec).length)).sum
  rw [List.length_map]
def loadsOf (c : NtC) (s : List Nat) : List Nat := rowOf c.links.length fun j => c.spec.load s j
theorem take_contains {l : List Nat} {k a : Nat} (h : l[k]? = some a) (j : Nat) : (l.take (k + 1)).contains j = ((l.take k).contains j || j == a) := by
  rw [List.take_add_one, h, Bool.eq_iff_iff]
  simp [or_comm]
theorem nd_take {l : List Nat} (nd : l.Nodup) {k a : Nat} (h : l[k]? = some a) : (l.take k).contains a = false := by
  rw [← Bool.not_eq_true, List.contains_iff_mem]
  intro hm
  obtain ⟨j, hj⟩ := List.mem_iff_getElem?.mp hm
  rw [List.getElem?_take] at hj
  by_cases hjk : j < k
  · rw [if_pos hjk] at hj
    have := nd_ix nd hj h
    omega
  · rw [if_neg hjk] at hj
    cases hj
section
variable {P : Program} {w : World} {K : PySem.W.Frag} {mg : Str → Option Value} {base : Heap} {A : Adr}
/-! ### links_along -/
def sp_links_along (K : PySem.W.Frag) (A : Adr) : Sp := fun vs H Q _ => ∃ (c : NtC) (na : Addr) (ns : List Nat), vs = [.ref c.a, .ref na] ∧ Hold H (c.cells A) ∧ SqL K H na (nats ns) ∧ ns.length ≤ 1000 ∧ RetL ((pairsB c.spec ns).map optV) H Q
theorem use_links_along {H : Hp} {c : NtC} {na : Addr} {ns : List Nat} (h : Hold H (c.cells A)) (hn : SqL K H na (nats ns)) (hz : ns.length ≤ 1000) : SpL (sp_links_along K A) [.ref c.a, .ref na] H ((pairsB c.spec ns).map optV) := fun _ e _ q _ => ⟨c, na, ns, rfl, h.mono e, ex_l e hn, hz, q⟩
theorem ok_links_along (T : Txt K mg A) (k_link_between : Cal P w K mg base 1 "link_between" (sp_link_between A)) {f : Addr} {fd : FuncData} (F : Fun K "links_along" "links_along" s_links_along f fd) (g : mg "links_along" = some (.ref f)) (b : Binds K fd ["network", "nodes"] []) : Cal P w K mg base 2 "links_along" (sp_links_along K A) := by
  refine ⟨f, fd, _, [], F.ok sc_links_along (fun vs H Q E h => ?_) (fun cdv A' outer s H vs Q E hr h => ?_), g, F.kp, b, .nil⟩
  · obtain ⟨c, na, ns, rfl, _⟩ := h
    rfl
  · obtain ⟨c, na, ns, rfl, hc, hn, hz, k⟩ := h
    refine ⟨_, (pss_one (ps_ret (pe_lc (g := zipG K 2 3) (own := [("here", 2), ("there", 3)]) rfl sc_links_along.nd (pi_zip (by rfl) T.b_zip (pa_cons (pv 1) (pa_cons (pe_slice sl_list (pv 1) (po_some pe_int) po_none) pa_nil))) (blkOk_by (own := [("here", 2), ("there", 3)]) (N := N_links_along) (sc := defScope s_links_along) (by decide +kernel)) (fun _ _ _ _ _ => (pg_tup rfl (pgs_cons (pg_name (i := 2) sc_links_along.nd rfl (.inl rfl)) (pgs_cons (pg_name (i := 3) sc_links_along.nd rfl (.inl rfl)) pgs_nil)))) (fun _ _ _ _ _ => pts_nil) (fun _ _ _ _ _ => (pe_c k_link_between hr (by decide) rfl (pa_cons (pv 0) (pa_cons (pv 2) (pa_cons (pv 3) pa_nil)))))))), ?_⟩
    have z := el_sl (K := K) (σ := [some (.ref c.a), some (.ref na), none, none]) (ev_var (i := 1) rfl) (eo_some (ev_int (i := 1))) eo_none hn
    rw [cut1, nats_drop] at z
    refine s_retL (el_lcZ (xs := nats ns) (ys := nats (ns.drop 1)) (fun _ => true) (fun i => optV (c.spec.linkBetween (ns.getD i 0) (ns.getD (i + 1) 0))) (zipA_on (ev_var rfl) z hn) (by rw [nats_len]; omega) (fun _ _ => rfl) (fun _ _ _ _ _ _ _ => et_yes) (fun i x y H1 e1 hx hy _ => ?_)) ?_
    · obtain ⟨m, hm, rfl⟩ := nats_at hx
      obtain ⟨n, hn', rfl⟩ := nats_at hy
      rw [List.getElem?_drop, Nat.add_comm] at hn'
      rw [getD_of hm, getD_of hn']
      exact ev_call (ea_cons (ev_var rfl) (ea_cons (ev_var rfl) (ea_cons (ev_var rfl) ea_nil))) (use_link_between (hc.mono e1))
    · intro p H1 hp e1 hl
      refine k p H1 hp e1 ?_
      rw [hl, given_all, nats_len, nats_len, List.length_drop]
      unfold pairsB
      rw [List.map_map, show min ns.length (ns.length - 1) = ns.length - 1 by omega]
      rfl
/-! ### loads_under -/
def sp_loads_under (K : PySem.W.Frag) (A : Adr) : Sp := fun vs H Q _ => ∃ (c : NtC) (kb : Bool) (sa : Addr) (s : List Nat), vs = [.ref c.a, .ref sa] ∧ Hold H (c.cells A) ∧ SqB K kb H sa (nats s) ∧ Wf c ∧ Fits c s ∧ RetL (nats (loadsOf c s)) H Q
theorem use_loads_under {H : Hp} {c : NtC} {kb : Bool} {sa : Addr} {s : List Nat} (h : Hold H (c.cells A)) (hn : SqB K kb H sa (nats s)) (wf : Wf c) (ft : Fits c s) : SpL (sp_loads_under K A) [.ref c.a, .ref sa] H (nats (loadsOf c s)) := fun _ e _ q _ => ⟨c, kb, sa, s, rfl, h.mono e, ex_b e hn, wf, ft, q⟩
theorem dec_pos (a : Nat) : decide ((0 : Int) < (a : Int)) = decide (0 < a) := by
  by_cases h : 0 < a
  · rw [decide_eq_true h, decide_eq_true (by omega)]
  · rw [decide_eq_false h, decide_eq_false (by omega)]
theorem ok_loads_under (T : Txt K mg A) {f : Addr} {fd : FuncData} (F : Fun K "loads_under" "loads_under" s_loads_under f fd) (g : mg "loads_under" = some (.ref f)) (b : Binds K fd ["network", "assignment"] []) : Cal P w K mg base 1 "loads_under" (sp_loads_under K A) := by
  refine ⟨f, fd, _, [], F.ok sc_loads_under (fun vs H Q E h => ?_) (fun cdv A' outer s H vs Q E hr h => ?_), g, F.kp, b, .nil⟩
  · obtain ⟨c, kb, na, ns, rfl, _⟩ := h
    rfl
  · obtain ⟨c, kb, sa, s, rfl, hc, hs, wf, ft, k⟩ := h
    refine ⟨_, (pss_cons (ps_setLc (i := 2) (own := [("link", 5)]) rfl sc_loads_under.nd rfl rfl (sw_true rfl rfl rfl (by decide +kernel)) (pi_list (pe_fld (pv 0) rfl)) (blkOk_by (own := [("link", 5)]) (N := N_loads_under) (sc := defScope s_loads_under) (by decide +kernel)) (fun _ _ _ _ _ => (pg_name (i := 5) sc_loads_under.nd rfl (.inl rfl))) (fun _ _ _ _ _ => pts_nil) (fun _ _ _ _ _ => pe_int)) (pss_cons (ps_for PassesOwn.never rfl (pi_zip2 (by rfl) T.b_zip (pa_cons (pe_fld (pv 0) rfl) (pa_cons (pv 1) pa_nil))) (pg_tup rfl (pgs_cons (pg_name (i := 3) sc_loads_under.nd rfl (.inl rfl)) (pgs_cons (pg_name (i := 4) sc_loads_under.nd rfl (.inl rfl)) pgs_nil))) (pss_one (ps_if (pt_cmpR op_gt (pv 4) pe_int (nomark _)) (pss_one (ps_for PassesOwn.never rfl (pi_list (pe_fld (pe_ix ix_list (pe_fld (pv 3) rfl) (pe_op op_sub (pv 4) pe_int) (fun _ _ => rfl)) rfl)) (pg_name (i := 5) sc_loads_under.nd rfl (.inl rfl)) (pss_one (ps_augS (pv 2) (pv 5) pget_list (pe_fld (pv 3) rfl) ip_add set_list)))) pss_nil))) (pss_one (ps_ret (pv 2))))), ?_⟩
    -- loads = [0 for link in network.links]
    refine q_asgL (el_lcL (xs := c.lrefs) (fun _ => true) (fun _ => .int ((0 : Nat) : Int)) (evN1 T hc (ev_var rfl)) (sq_of (NtC.hL hc)) (by rw [List.length_map]; have := wf.1; omega) (fun _ => rfl) (fun _ _ _ _ _ => et_yes) (fun _ _ _ _ _ _ => ev_c)) fun lo H1 nlo e1 hlo => ?_
    have hlo' : H1 lo = some (.lst (nats (rowOf c.links.length fun j => partL c s 0 j))) := by
      rw [hlo, given_all, List.length_map]
      unfold rowOf nats
      rw [List.map_map]
      rfl
    -- for flow, choice in zip(network.flows, assignment)
    have hF : ∀ H', Ex H H' → SqL K H' c.fa c.frefs := fun H' e => sq_of (e _ _ (NtC.hF hc))
    refine q_forZ2 (k1 := false) (k2 := kb) (xs := c.frefs) (ys := nats s) (ea_cons (evN2 T (hc.mono e1) (ev_var rfl)) (ea_cons (ev_var rfl) ea_nil)) (hF H1 e1) (ex_b e1 hs) (fun i σ' H' => (∃ y3 y4 y5, σ' = [some (.ref c.a), some (.ref sa), some (.ref lo), y3, y4, y5]) ∧ Ex H H' ∧ H' lo = some (.lst (nats (rowOf c.links.length fun j => partL c s i j))))
      (fun H2 e2 => ⟨⟨none, none, none, rfl⟩, e1.trans e2, e2 _ _ hlo'⟩) (fun i σ' H' p => ⟨hF H' p.2.1, ex_b p.2.1 hs⟩) ?_ ?_
    · rintro i x y σ' H' hx hy ⟨⟨y3, y4, y5, rfl⟩, eh, hl⟩ H2 e2
      obtain ⟨g, hg, rfl⟩ := refs_get hx
      obtain ⟨ch, hch, rfl⟩ := nats_at hy
      have hc2 := hc.mono (eh.trans e2)
      have hfl := NtC.hFl hc hg
      have hgo := wf.2.2 g (List.mem_of_getElem? hg)
      have hgD : s.getD i 0 = ch := getD_of hch
      have hle : ch ≤ g.paths.length := by
        have := ft.2 i g hg
        rw [hgD] at this
        exact this
      have hl2 := e2 _ _ hl
      refine s_when (b := decide (0 < ch)) ?_ (fun hb1 H3 e3 => ?_) (fun hb1 H3 e3 => ?_)
      · refine et_test ?_
        have := ev_I0 (g := fun i j => .bl (decide (j < i))) (H := H2) (ev_var (i := 4) (σ := [some (.ref c.a), some (.ref sa), some (.ref lo), some (.ref g.a), some (.int (ch : Int)), y5]) rfl) (ev_int (i := 0))
        rw [dec_pos] at this
        exact this
      · obtain ⟨kk, rfl⟩ : ∃ kk, ch = kk + 1 := ⟨ch - 1, by have := of_decide_eq_true hb1; omega⟩
        have hk : kk < g.paths.length := by omega
        have gp : g.paths[kk]? = some g.paths[kk] := List.getElem?_eq_getElem hk
        generalize g.paths[kk] = pp at gp
        have hmem := List.mem_of_getElem? gp
        have hh3 : Ex H H3 := (eh.trans e2).trans e3
        have hfl3 := hfl.mono hh3
        have hpa := FlC.hPa hfl gp
        have hused : c.spec.usedLinks i (kk + 1) = pp.links := used_of hg gp
        have hdem : (c.spec.flow i).demand = g.d := by rw [flow_of hg]; rfl
        -- for link in flow.paths[choice - 1].links
        have evi : Ev (tOp (rI0 fun i j => .int (i - j)) (tVar 4) (tC (.int 1))) [some (.ref c.a), some (.ref sa), some (.ref lo), some (.ref g.a), some (.int ((kk + 1 : Nat) : Int)), y5] H3 (.int (kk : Int)) := by
          have := ev_I0 (g := fun i j => .int (i - j)) (H := H3) (ev_var (i := 4) (σ := [some (.ref c.a), some (.ref sa), some (.ref lo), some (.ref g.a), some (.int ((kk + 1 : Nat) : Int)), y5]) rfl) (ev_int (i := 1))
          rw [show (((kk + 1 : Nat) : Int) - 1) = (kk : Int) by omega] at this
          exact this
        have evl := evP1 T (hpa.mono hh3) (ev_ixL (K := K) (evF3 T hfl3 (ev_var (i := 3) (σ := [some (.ref c.a), some (.ref sa), some (.ref lo), some (.ref g.a), some (.int ((kk + 1 : Nat) : Int)), y5]) rfl)) evi (sq_of (FlC.hP hfl3)) (map_get gp))
        refine s_forLn (xs := nats pp.links) evl (sq_of (PaC.hL (hpa.mono hh3))) (fun m σ' H' => (∃ y5, σ' = [some (.ref c.a), some (.ref sa), some (.ref lo), some (.ref g.a), some (.int ((kk + 1 : Nat) : Int)), y5]) ∧ Ex H H' ∧ H' lo = some (.lst (nats (rowOf c.links.length fun j => partL c s i j + if (pp.links.take m).contains j = true then g.d else 0))))
          (fun H4 e4 => ⟨⟨_, rfl⟩, hh3.trans e4, by
            have : (fun j => partL c s i j + if (pp.links.take 0).contains j = true then g.d else 0) = fun j => partL c s i j := by
              funext j
              simp
            rw [this]
            exact (e3.trans e4) _ _ hl2⟩) (fun m σ' H' _ p => sq_of (p.2.1 _ _ (PaC.hL hpa))) ?_ ?_
        · rintro m x σ' H' hm ⟨⟨y5', rfl⟩, qe, qo⟩
          obtain ⟨kl, hkl, rfl⟩ := nats_at hm
          have hkn : kl < c.links.length := hgo.lt pp hmem kl (List.mem_of_getElem? hkl)
          have hnot := nd_take (hgo.nd pp hmem) hkl
          have gr := rowOf_get (g := fun j => partL c s i j + if (pp.links.take m).contains j = true then g.d else 0) hkn
          refine s_augL (ev_var rfl) (ev_var rfl) qo (nats_get gr) (evF2 T (hfl.mono qe) (ev_var rfl)) fun H4 e4 => ?_
          refine ⟨⟨_, rfl⟩, Ex.mut (qe.trans e4) nlo, ?_⟩
          rw [upd_same, ← Int.natCast_add, nats_set, rowOf_set]
          congr 3
          refine rowOf_ext fun j hj => ?_
          rw [take_contains hkl]
          by_cases ej : j = kl
          · subst ej
            rw [if_pos rfl, hnot]
            simp
          · rw [if_neg ej]
            have : (j == kl) = false := by simpa using ej
            rw [this, Bool.or_false]
        · rintro σ' H' ⟨⟨y5', rfl⟩, qe, qo⟩
          refine ⟨⟨_, _, _, rfl⟩, qe, ?_⟩
          rw [qo, nats_len, List.take_length]
          congr 3
          refine rowOf_ext fun j hj => ?_
          rw [partL_succ, hgD, hused, hdem]
      · have h0 : ch = 0 := by have := of_decide_eq_false hb1; omega
        subst h0
        refine ⟨⟨_, _, _, rfl⟩, (eh.trans e2).trans e3, ?_⟩
        rw [e3 _ _ hl2]
        congr 3
        refine rowOf_ext fun j hj => ?_
        rw [partL_succ, hgD, used_zero]
        simp
    · rintro σ' H' ⟨⟨y3, y4, y5, rfl⟩, eh, hl⟩
      refine s_ret (ev_var rfl) fun H2 e2 => ?_
      refine k lo H2 nlo (eh.trans e2) ?_
      rw [e2 _ _ hl, List.length_map, nats_len, ft.1, Nat.min_self]
      congr 3
      exact rowOf_ext fun j _ => partL_all c s j
end
end Fm

set_option Elab.async false
set_option linter.all false
set_option maxRecDepth 100000
set_option maxHeartbeats 4000000
/-! has_room, links_entered, is_path_of. -/
namespace Fm
open C8 (pe_c pe_mk pe_gc)
open PySem PySem.Spec PyProof.Rows L2 Evl
section
variable {P : Program} {w : World} {K : PySem.W.Frag} {mg : Str → Option Value} {base : Heap} {A : Adr}
/-! ### has_room -/
def roomFor (c : NtC) (s ks : List Nat) (d : Nat) : Bool := ks.all fun k => decide (c.spec.load s k + d ≤ (c.spec.link k).capacity)
def sp_has_room (K : PySem.W.Frag) (A : Adr) : Sp := fun vs H Q _ => ∃ (c : NtC) (lo la : Addr) (s ks : List Nat) (d : Nat), vs = [.ref c.a, .ref lo, .ref la, .int d] ∧ Hold H (c.cells A) ∧ SqL K H lo (nats (loadsOf c s)) ∧ SqL K H la (nats ks) ∧ (∀ k ∈ ks, k < c.links.length) ∧ RetV (.bl (roomFor c s ks d)) H Q
theorem use_has_room {H : Hp} {c : NtC} {lo la : Addr} {s ks : List Nat} {d : Nat} (h : Hold H (c.cells A)) (hs : SqL K H lo (nats (loadsOf c s))) (hk : SqL K H la (nats ks)) (lt : ∀ k ∈ ks, k < c.links.length) : SpV (sp_has_room K A) [.ref c.a, .ref lo, .ref la, .int d] H (.bl (roomFor c s ks d)) := fun _ e _ q _ => ⟨c, lo, la, s, ks, d, rfl, h.mono e, ex_l e hs, ex_l e hk, lt, q⟩
theorem ok_has_room (T : Txt K mg A) {f : Addr} {fd : FuncData} (F : Fun K "has_room" "has_room" s_has_room f fd) (g : mg "has_room" = some (.ref f)) (b : Binds K fd ["network", "loads", "links", "demand"] []) : Cal P w K mg base 1 "has_room" (sp_has_room K A) := by
  refine ⟨f, fd, _, [], F.ok sc_has_room (fun vs H Q E h => ?_) (fun cdv A' outer s H vs Q E hr h => ?_), g, F.kp, b, .nil⟩
  · obtain ⟨c, sa, la, s, ks, d, rfl, _⟩ := h
    rfl
  · obtain ⟨c, lo, la, s, ks, d, rfl, hc, hlo, hk, lt, k⟩ := h
    refine ⟨_, (pss_cons (ps_for PassesOwn.never rfl (pi_list (pv 2)) (pg_name (i := 4) sc_has_room.nd rfl (.inl rfl)) (pss_one (ps_if (pt_cmpR op_gt (pe_op op_add (pe_ix ix_list (pv 1) (pv 4) (fun _ _ => rfl)) (pv 3)) (pe_fld (pe_ix ix_list (pe_fld (pv 0) rfl) (pv 4) (fun _ _ => rfl)) rfl) (nomark _)) (pss_one (ps_ret pe_bl)) pss_nil))) (pss_one (ps_ret pe_bl))), ?_⟩
    refine q_forLn (xs := nats ks) (ev_var rfl) hk (fun i σ' H' => (∃ y5, σ' = [some (.ref c.a), some (.ref lo), some (.ref la), some (.int d), y5]) ∧ Ex H H' ∧ roomFor c s (ks.take i) d = true) (fun H2 e2 => ⟨⟨none, rfl⟩, e2, rfl⟩) (fun i σ' H' _ p => ex_l p.2.1 hk) ?_ ?_
    · rintro i x σ' H' hx ⟨⟨y5, rfl⟩, e2, hno⟩
      obtain ⟨kl, hkl, rfl⟩ := nats_at hx
      have hkn := lt kl (List.mem_of_getElem? hkl)
      have gl : c.links[kl]? = some c.links[kl] := List.getElem?_eq_getElem hkn
      generalize c.links[kl] = l at gl
      have hc2 := hc.mono e2
      have st : roomFor c s (ks.take (i + 1)) d = (roomFor c s (ks.take i) d && decide (c.spec.load s kl + d ≤ l.c)) := by
        unfold roomFor
        rw [List.take_add_one, hkl, List.all_append]
        show (_ && (decide (c.spec.load s kl + d ≤ (c.spec.link kl).capacity) && true)) = _
        rw [Bool.and_true, link_of gl]
        rfl
      refine s_when (b := decide (l.c < c.spec.load s kl + d)) (et_test (ev_gtN (ev_addN (ev_ixN (K := K) (ev_var rfl) (ev_var rfl) (ex_l e2 hlo) (rowOf_get hkn)) (ev_var rfl)) (evL2 T (NtC.hLk hc2 gl) (ev_ixR (K := K) (evN1 T hc2 (ev_var rfl)) (ev_var rfl) (sq_of (NtC.hL hc2)) gl)))) (fun hb H3 e3 => ?_) (fun hb H3 e3 => ?_)
      · refine s_ret ev_c fun H4 e4 => ?_
        have hf : roomFor c s ks d = false := by
          unfold roomFor
          rw [List.all_eq_false]
          refine ⟨kl, List.mem_of_getElem? hkl, ?_⟩
          rw [link_of gl]
          have := of_decide_eq_true hb
          simp only [decide_eq_true_eq]
          show ¬ _ ≤ l.c
          omega
        have r := k H4 ((e2.trans e3).trans e4)
        rw [hf] at r
        exact r
      · refine ⟨⟨_, rfl⟩, e2.trans e3, ?_⟩
        rw [st, hno, Bool.true_and]
        have := of_decide_eq_false hb
        exact decide_eq_true (by omega)
    · rintro σ' H' ⟨⟨y5, rfl⟩, e2, hno⟩
      refine s_ret ev_c fun H4 e4 => ?_
      rw [nats_len, List.take_length] at hno
      have r := k H4 (e2.trans e4)
      rw [hno] at r
      exact r
/-! ### links_entered -/
def sp_links_entered (A : Adr) : Sp := fun vs H Q _ => ∃ (p q : PaC), vs = [.ref p.a, .ref q.a] ∧ Hold H (p.cells A) ∧ Hold H (q.cells A) ∧ q.links.length ≤ 1000 ∧ RetL (nats (q.links.filter fun k => !p.links.contains k)) H Q
theorem use_links_entered {H : Hp} {p q : PaC} (h : Hold H (p.cells A)) (h2 : Hold H (q.cells A)) (hz : q.links.length ≤ 1000) : SpL (sp_links_entered A) [.ref p.a, .ref q.a] H (nats (q.links.filter fun k => !p.links.contains k)) := fun _ e _ z _ => ⟨p, q, rfl, h.mono e, h2.mono e, hz, z⟩
theorem flat_nats (l : List Nat) : (nats l).all flatV = true := by
  rw [List.all_eq_true]
  intro x hx
  obtain ⟨n, _, rfl⟩ := List.mem_map.mp hx
  rfl
theorem inV_nats (a : Nat) (l : List Nat) : inV (.int (a : Int)) (nats l) = l.contains a := by
  unfold inV nats
  rw [List.any_map, Bool.eq_iff_iff, List.any_eq_true, List.contains_iff_mem]
  constructor
  · rintro ⟨x, hx, e⟩
    have e' : ((x : Int) == (a : Int)) = true := e
    rw [cast_beq] at e'
    rw [← eq_of_beq e']
    exact hx
  · intro h
    exact ⟨a, h, show ((a : Int) == (a : Int)) = true from beq_self_eq_true _⟩
theorem given_filter (l : List Nat) (q : Nat → Bool) : given l.length (fun i => q (l.getD i 0)) (fun i => .int ((l.getD i 0 : Nat) : Int)) = nats (l.filter q) := by
  unfold given nats
  have e : l = (List.range l.length).map fun i => l.getD i 0 := by
    refine List.ext_getElem? fun j => ?_
    rw [List.getElem?_map]
    by_cases hj : j < l.length
    · rw [List.getElem?_range hj, List.getElem?_eq_getElem hj]
      show some _ = some (l.getD j 0)
      rw [List.getD_eq_getElem?_getD, List.getElem?_eq_getElem hj]
      rfl
    · rw [List.getElem?_eq_none (by omega), List.getElem?_eq_none (by rw [List.length_range]; omega)]
      rfl
  conv => rhs; rw [e]
  rw [List.filter_map, List.map_map]
  rfl
theorem ok_links_entered (T : Txt K mg A) {f : Addr} {fd : FuncData} (F : Fun K "links_entered" "links_entered" s_links_entered f fd) (g : mg "links_entered" = some (.ref f)) (b : Binds K fd ["old_path", "new_path"] []) : Cal P w K mg base 1 "links_entered" (sp_links_entered A) := by
  refine ⟨f, fd, _, [], F.ok sc_links_entered (fun vs H Q E h => ?_) (fun cdv A' outer s H vs Q E hr h => ?_), g, F.kp, b, .nil⟩
  · obtain ⟨p, q, rfl, _⟩ := h
    rfl
  · obtain ⟨p, q, rfl, hp, hq, hz, k⟩ := h
    refine ⟨_, (pss_one (ps_ret (pe_lc (tt := tTest (tOp (rIn K true) (tVar 2) (tFld K (tVar 0) "links"))) (own := [("link", 2)]) rfl sc_links_entered.nd (pi_list (pe_fld (pv 1) rfl)) (blkOk_by (own := [("link", 2)]) (N := N_links_entered) (sc := defScope s_links_entered) (by decide +kernel)) (fun _ _ _ _ _ => (pg_name (i := 2) sc_links_entered.nd rfl (.inl rfl))) (fun _ _ _ _ _ => (pts_one (pt_cmpR op_notIn_seq (pv 2) (pe_fld (pv 0) rfl) (by rfl)))) (fun _ _ _ _ _ => (pv 2))))), ?_⟩
    refine s_retL (el_lcL (xs := nats q.links) (fun i => !p.links.contains (q.links.getD i 0)) (fun i => .int ((q.links.getD i 0 : Nat) : Int)) (evP1 T hq (ev_var rfl)) (sq_of (PaC.hL hq)) (by rw [nats_len]; omega) (fun _ => rfl) (fun i x H1 e1 hx => ?_) (fun i x H1 e1 hx _ => ?_)) fun p' H1 hp' e1 hl => ?_
    · obtain ⟨kl, hkl, rfl⟩ := nats_at hx
      rw [getD_of hkl, ← inV_nats]
      exact et_test (ev_op (ev_var rfl) (evP1 T (hp.mono e1) (ev_var rfl)) (rv_niL (sq_of (PaC.hL (hp.mono e1))) rfl (flat_nats _)))
    · obtain ⟨kl, hkl, rfl⟩ := nats_at hx
      rw [getD_of hkl]
      exact ev_var rfl
    · refine k p' H1 hp' e1 ?_
      rw [hl, nats_len, given_filter q.links fun k => !p.links.contains k]
/-! ### is_path_of -/
end
end Fm

set_option Elab.async false
set_option linter.all false
set_option maxRecDepth 100000
set_option maxHeartbeats 4000000
/-! is_path_of. -/
namespace Fm
open C8 (pe_c pe_mk pe_gc)
open PySem PySem.Spec PyProof.Rows L2 Evl
/-! ### links_along against the specification -/
theorem pairsB_cons (w : Su203.Network) (u v : Nat) (l : List Nat) : pairsB w (u :: v :: l) = w.linkBetween u v :: pairsB w (v :: l) := by
  unfold pairsB
  show (List.range (l.length + 1)).map _ = _
  rw [List.range_succ_eq_map, List.map_cons, List.map_map]
  rfl
theorem along_some (w : Su203.Network) : ∀ (l ks : List Nat), w.linksAlong l = some ks → pairsB w l = ks.map some
  | [], ks, h => by
    have e : ks = [] := (Option.some.inj h).symm
    subst e
    rfl
  | [_], ks, h => by
    have e : ks = [] := (Option.some.inj h).symm
    subst e
    rfl
  | u :: v :: l, ks, h => by
    rw [pairsB_cons]
    rw [Su203.Network.linksAlong] at h
    cases e1 : w.linkBetween u v with
    | none =>
      rw [e1] at h
      simp at h
    | some i =>
      cases e2 : w.linksAlong (v :: l) with
      | none =>
        rw [e1, e2] at h
        simp at h
      | some k =>
        rw [e1, e2] at h
        have e : ks = i :: k := (Option.some.inj h).symm
        subst e
        rw [along_some w (v :: l) k e2]
        rfl
theorem along_none (w : Su203.Network) : ∀ (l : List Nat), w.linksAlong l = none → none ∈ pairsB w l
  | [], h => by cases h
  | [_], h => by cases h
  | u :: v :: l, h => by
    rw [pairsB_cons]
    rw [Su203.Network.linksAlong] at h
    cases e1 : w.linkBetween u v with
    | none => exact .head _
    | some i =>
      cases e2 : w.linksAlong (v :: l) with
      | none => exact .tail _ (along_none w (v :: l) e2)
      | some k =>
        rw [e1, e2] at h
        cases h
theorem along_isSome (w : Su203.Network) (l : List Nat) : (w.linksAlong l).isSome = !((pairsB w l).contains none) := by
  cases e : w.linksAlong l with
  | none =>
    have := along_none w l e
    simp [this]
  | some ks =>
    rw [along_some w l ks e]
    simp
theorem inV_opts (l : List (Option Nat)) : inV .non (l.map optV) = l.contains none := by
  unfold inV
  rw [List.any_map, Bool.eq_iff_iff, List.any_eq_true, List.contains_iff_mem]
  constructor
  · rintro ⟨x, hx, e⟩
    cases x with
    | none => exact hx
    | some n => cases e
  · intro h
    exact ⟨none, h, rfl⟩
theorem flat_opts (l : List (Option Nat)) : (l.map optV).all flatV = true := by
  rw [List.all_eq_true]
  intro x hx
  obtain ⟨n, _, rfl⟩ := List.mem_map.mp hx
  cases n <;> rfl
/-! ### len(set(..)) -/
abbrev intsOf (l : List Nat) : List Int := l.map fun (n : Nat) => ((n : Nat) : Int)
theorem nats_ints (l : List Nat) : nats l = (intsOf l).map V.int := by
  unfold nats intsOf
  rw [List.map_map]
  rfl
theorem met_step (σ : List Int) (x : Int) : PyProof.Rows.step_dedup σ x = if σ.any (· == x) then σ else σ ++ [x] := rfl
theorem met_nodup (ns : List Int) : ∀ i, i ≤ ns.length → (PyProof.Rows.firstMet (fun i => ns.getD i 0) i).length = i → (ns.take i).Nodup
  | 0, _, _ => List.nodup_nil
  | i + 1, hi, h => by
    have hlt : i < ns.length := hi
    have hle := PyProof.Rows.firstMet_length_le (fun i => ns.getD i 0) i
    have e1 : ns.getD i 0 = ns[i] := by
      rw [List.getD_eq_getElem?_getD, List.getElem?_eq_getElem hlt]
      rfl
    rw [PyProof.Rows.firstMet_succ, met_step] at h
    have hno : (PyProof.Rows.firstMet (fun i => ns.getD i 0) i).any (· == ns.getD i 0) = false := by
      cases hb : (PyProof.Rows.firstMet (fun i => ns.getD i 0) i).any (· == ns.getD i 0) with
      | false => rfl
      | true =>
        rw [hb, if_pos rfl] at h
        omega
    rw [hno, if_neg Bool.false_ne_true, List.length_append, List.length_singleton] at h
    have ih := met_nodup ns i (by omega) (by omega)
    have em : PyProof.Rows.firstMet (fun i => ns.getD i 0) i = ns.take i := by
      have := RZ.firstMet_nodup (ns := ns.take i) ih (ns.take i).length (Nat.le_refl _)
      rw [List.take_length, List.length_take, Nat.min_eq_left (by omega)] at this
      have e : PyProof.Rows.firstMet (fun i => ns.getD i 0) i = PyProof.Rows.firstMet (fun j => (ns.take i).getD j 0) i := by
        unfold PyProof.Rows.firstMet
        congr 1
        refine List.map_congr_left fun j hj => ?_
        have hji := List.mem_range.mp hj
        rw [List.getD_eq_getElem?_getD, List.getD_eq_getElem?_getD, List.getElem?_take, if_pos hji]
      rw [e, this]
    rw [em, e1] at hno
    rw [List.take_add_one, List.getElem?_eq_getElem hlt]
    show (ns.take i ++ [ns[i]]).Nodup
    rw [List.nodup_append]
    refine ⟨ih, by simp, fun a ha b hb => ?_⟩
    rw [List.mem_singleton] at hb
    subst hb
    intro z
    subst z
    rw [List.any_eq_false] at hno
    exact hno _ ha (by simp)
theorem ints_nodup {l : List Nat} : (intsOf l).Nodup ↔ l.Nodup := by
  unfold intsOf
  rw [List.nodup_iff_pairwise_ne, List.pairwise_map, List.nodup_iff_pairwise_ne]
  constructor
  · intro h
    refine h.imp ?_
    intro a b q z
    exact q (by rw [z])
  · intro h
    refine h.imp ?_
    intro a b q z
    exact q (by omega)
theorem met_lt (l : List Nat) : decide ((metOf (intsOf l)).length < l.length) = !decide l.Nodup := by
  have hlen : (intsOf l).length = l.length := List.length_map _
  by_cases h : l.Nodup
  · have := RZ.firstMet_nodup (ints_nodup.mpr h) (intsOf l).length (Nat.le_refl _)
    rw [decide_eq_true h]
    unfold metOf
    rw [this, List.take_length, hlen]
    simp
  · have hle := PyProof.Rows.firstMet_length_le (fun i => (intsOf l).getD i 0) (intsOf l).length
    rw [decide_eq_false h]
    refine decide_eq_true ?_
    rcases Nat.lt_or_ge (metOf (intsOf l)).length l.length with q | q
    · exact q
    · have e := met_nodup (intsOf l) (intsOf l).length (Nat.le_refl _) (by unfold metOf at q; omega)
      rw [List.take_length] at e
      exact absurd (ints_nodup.mp e) h
section
variable {P : Program} {w : World} {K : PySem.W.Frag} {mg : Str → Option Value} {base : Heap} {A : Adr}
def sp_is_path_of (K : PySem.W.Frag) (A : Adr) : Sp := fun vs H Q _ => ∃ (c : NtC) (i : Nat) (f : FlC) (na : Addr) (ns : List Nat), vs = [.ref c.a, .ref f.a, .ref na] ∧ Hold H (c.cells A) ∧ c.flows[i]? = some f ∧ SqL K H na (nats ns) ∧ ns.length ≤ 1000 ∧ RetV (.bl (c.spec.isPath i ns)) H Q
theorem use_is_path_of {H : Hp} {c : NtC} {i : Nat} {f : FlC} {na : Addr} {ns : List Nat} (h : Hold H (c.cells A)) (hf : c.flows[i]? = some f) (hn : SqL K H na (nats ns)) (hz : ns.length ≤ 1000) : SpV (sp_is_path_of K A) [.ref c.a, .ref f.a, .ref na] H (.bl (c.spec.isPath i ns)) := fun _ e _ q _ => ⟨c, i, f, na, ns, rfl, h.mono e, hf, ex_l e hn, hz, q⟩
theorem isPath_eq {c : NtC} {i : Nat} {f : FlC} (hf : c.flows[i]? = some f) (ns : List Nat) : c.spec.isPath i ns = (decide (2 ≤ ns.length) && (decide ns.Nodup && (ns.head? == some f.s && (ns.getLast? == some f.t && !(pairsB c.spec ns).contains none)))) := by
  unfold Su203.Network.isPath
  rw [flow_of hf, along_isSome]
  rfl
theorem ok_is_path_of (T : Txt K mg A) (k_links_along : Cal P w K mg base 2 "links_along" (sp_links_along K A)) {f : Addr} {fd : FuncData} (F : Fun K "is_path_of" "is_path_of" s_is_path_of f fd) (g : mg "is_path_of" = some (.ref f)) (b : Binds K fd ["network", "flow", "nodes"] []) : Cal P w K mg base 3 "is_path_of" (sp_is_path_of K A) := by
  refine ⟨f, fd, _, [], F.ok sc_is_path_of (fun vs H Q E h => ?_) (fun cdv A' outer s H vs Q E hr h => ?_), g, F.kp, b, .nil⟩
  · obtain ⟨c, i, f, na, ns, rfl, _⟩ := h
    rfl
  · obtain ⟨c, i, g, na, ns, rfl, hc, hg, hn, hz, k⟩ := h
    refine ⟨_, (pss_cons (ps_if (PW.pt (pw_or (pt_cmpR op_lt (pe_callB call_len_seq (by rfl) T.b_len PySem.boot_len (pa_cons (pv 2) pa_nil)) pe_int (nomark _)) (pw_or1 (pt_cmpR op_lt (pe_lenSetG (by rfl) T.b_len (by rfl) T.b_set (pv 2)) (pe_callB call_len_seq (by rfl) T.b_len PySem.boot_len (pa_cons (pv 2) pa_nil)) (nomark _))))) (pss_one (ps_ret pe_bl)) pss_nil) (pss_cons (ps_if (PW.pt (pw_or (pt_cmpR op_ne (pe_ix ix_list (pv 2) pe_int (fun _ _ => rfl)) (pe_fld (pv 1) rfl) (nomark _)) (pw_or1 (pt_cmpR op_ne (pe_ix ix_list (pv 2) (pe_un un_neg pe_int) (fun _ _ => rfl)) (pe_fld (pv 1) rfl) (nomark _))))) (pss_one (ps_ret pe_bl)) pss_nil) (pss_one (ps_ret (pe_cmpR op_notIn_seq pe_non (pe_c k_links_along hr (by decide) rfl (pa_cons (pv 0) (pa_cons (pv 2) pa_nil))) (by rfl)))))), ?_⟩
    have hn' : SqL K H na ((intsOf ns).map V.int) := by
      rw [← nats_ints]
      exact hn
    rw [isPath_eq hg] at k
    have hfl := NtC.hFl hc hg
    -- len(nodes) < 2 or len(set(nodes)) < len(nodes)
    refine q_when (b := decide (ns.length < 2) || !decide ns.Nodup) (et_or (et_test (ev_ltN (ev_lenN' (K := K) (ev_var rfl) hn) (ev_nat 2))) fun _ => ?_) (fun hb H1 e1 => ?_) (fun hb H1 e1 => ?_)
    · have r := et_test (ev_ltN (ev_lenSetG (K := K) (σ := [some (.ref c.a), some (.ref g.a), some (.ref na)]) (ev_var (i := 2) rfl) hn' (by rw [List.length_map]; omega)) (ev_lenN' (K := K) (ev_var (i := 2) rfl) hn))
      rw [met_lt] at r
      exact r
    · refine s_ret ev_c fun H2 e2 => ?_
      have r := k H2 (e1.trans e2)
      rw [show (decide (2 ≤ ns.length) && (decide ns.Nodup && (ns.head? == some g.s && (ns.getLast? == some g.t && !(pairsB c.spec ns).contains none)))) = false by
        rw [Bool.or_eq_true] at hb
        rcases hb with hb | hb
        · rw [decide_eq_false (by have := of_decide_eq_true hb; omega)]
          rfl
        · have : decide ns.Nodup = false := by simpa using hb
          rw [this, Bool.false_and, Bool.and_false]] at r
      exact r
    · rw [Bool.or_eq_false_iff] at hb
      have h2 : 2 ≤ ns.length := by have := of_decide_eq_false hb.1; omega
      have hnd : decide ns.Nodup = true := by simpa using hb.2
      rw [decide_eq_true h2, hnd, Bool.true_and, Bool.true_and] at k
      obtain ⟨a0, hh⟩ : ∃ a, ns.head? = some a := by
        cases ns with
        | nil => cases h2
        | cons a r => exact ⟨a, rfl⟩
      obtain ⟨a1, hl⟩ : ∃ a, ns.getLast? = some a := by
        cases hq : ns.getLast? with
        | none =>
          rw [List.getLast?_eq_none_iff] at hq
          subst hq
          cases h2
        | some a => exact ⟨a, rfl⟩
      have g0 : ns[0]? = some a0 := by rw [← List.head?_eq_getElem?]; exact hh
      have gl : atI (nats ns) (-1) = some (.int (a1 : Int)) := by
        have hz : nats ns = nats ns.dropLast ++ [.int (a1 : Int)] := by
          have e : ns = ns.dropLast ++ [a1] := by
            rw [List.getLast?_eq_some_iff] at hl
            obtain ⟨ys, hy⟩ := hl
            rw [hy, List.dropLast_concat]
          conv => lhs; rw [e]
          unfold nats
          rw [List.map_append]
          rfl
        rw [hz]
        exact atI_last _ _
      rw [hh, hl] at k
      -- nodes[0] != flow.source or nodes[-1] != flow.destination
      refine q_when (b := (!decide (a0 = g.s)) || !decide (a1 = g.t)) (et_or (et_test (ev_neN (ev_ixN (K := K) (ev_var rfl) (ev_nat 0) (ex_l e1 hn) g0) (evF0 T (hfl.mono e1) (ev_var rfl)))) fun _ => et_test (ev_neN (ev_op (ev_var rfl) (ev_un (ev_int (i := 1)) ru_neg) (rv_ixL (ex_l e1 hn) gl)) (evF1 T (hfl.mono e1) (ev_var rfl)))) (fun hb H2 e2 => ?_) (fun hb H2 e2 => ?_)
      · refine s_ret ev_c fun H3 e3 => ?_
        have r := k H3 ((e1.trans e2).trans e3)
        rw [show ((some a0 == some g.s) && ((some a1 == some g.t) && !(pairsB c.spec ns).contains none)) = false by
          rw [Bool.or_eq_true] at hb
          rcases hb with hb | hb
          · have : ¬ a0 = g.s := by simpa using hb
            have : (some a0 == some g.s) = false := by simpa using this
            rw [this, Bool.false_and]
          · have : ¬ a1 = g.t := by simpa using hb
            have : (some a1 == some g.t) = false := by simpa using this
            rw [this, Bool.false_and, Bool.and_false]] at r
        exact r
      · rw [Bool.or_eq_false_iff] at hb
        have e0 : a0 = g.s := by simpa using hb.1
        have e1' : a1 = g.t := by simpa using hb.2
        subst e0 e1'
        rw [beq_self_eq_true, beq_self_eq_true, Bool.true_and, Bool.true_and] at k
        refine s_ret (v := .bl (!(pairsB c.spec ns).contains none)) ?_ fun H3 e3 => k H3 ((e1.trans e2).trans e3)
        refine ev_opL ev_c (el_call (ea_cons (ev_var rfl) (ea_cons (ev_var rfl) ea_nil)) (use_links_along (hc.mono (e1.trans e2)) (ex_l (e1.trans e2) hn) hz)) fun p H3 hp e3 => ?_
        rw [← inV_opts]
        exact rv_niL (sq_of hp) rfl (flat_opts _)
end
end Fm

set_option Elab.async false
set_option linter.all false
set_option maxRecDepth 100000
set_option maxHeartbeats 4000000
/-! is_feasible, uses_link, links_at. -/
namespace Fm
open C8 (pe_c pe_mk pe_gc)
open PySem PySem.Spec PyProof.Rows L2 Evl
/-- [e for i, x in enumerate(xs) if t] -/
theorem el_lcE {K : PySem.W.Frag} {σ : L2.St} {H : Hp} {te : TE} {t : TT} {ta : TA} {a : Addr} {xs : List V} {i1 i2 : Nat} {vs : List Nat} (f : Nat → Bool) (v : Nat → V) (h : EvA ta σ H [.ref a]) (hx : SqL K H a xs) (hz : xs.length ≤ 40000)
    (hw : ∀ x y, wipe (((wipe σ vs).set i1 (some x)).set i2 (some y)) vs = wipe σ vs)
    (ht : ∀ (i : Nat) (x : V) H1, Ex H H1 → xs[i]? = some x → EvT t (((wipe σ vs).set i1 (some (.int (i : Int)))).set i2 (some x)) H1 (f i))
    (he : ∀ (i : Nat) (x : V) H1, Ex H H1 → xs[i]? = some x → f i = true → Ev te (((wipe σ vs).set i1 (some (.int (i : Int)))).set i2 (some x)) H1 (v i)) :
    EvL (tLc (iEnum K ta) (zipG K i1 i2) t te vs) σ H (given xs.length f v) := fun H0 e Q q => h H0 e _ fun H1 e1 => ⟨a, xs, rfl, ex_l (e.trans e1) hx, fun Dl hD => ⟨fun i m H' => m = xs.length - i ∧ i ≤ xs.length ∧ Cw H1 f v Dl i H',
      ⟨xs.length, rfl, Nat.zero_le _, hD, Ex.new hD, upd_same⟩, by
    rintro i m H' ⟨rfl, hi, p⟩
    have qx : SqL K H' a xs := ex_l p.2.1 (ex_l (e.trans e1) hx)
    by_cases hlt : i < xs.length
    · have gx : xs[i]? = some xs[i] := List.getElem?_eq_getElem hlt
      refine .inr ⟨⟨xs, _, qx, gx⟩, Cw H1 f v Dl (i + 1), fun H2 p' => ⟨xs.length - (i + 1), by omega, rfl, hlt, p'⟩, fun u H2 hu => ?_⟩
      obtain ⟨T, x', rfl, nT, rfl, f1⟩ := hu
      have ex1 : x' = xs[i] := Option.some.inj ((f1 _ qx).symm.trans gx)
      subst ex1
      have p2 : Cw H1 f v Dl i (upd H' T (.tup [.int (i : Int), xs[i]])) := ⟨p.1, p.2.1.trans (Ex.new nT), Ex.new nT _ _ p.2.2⟩
      exact zipG_go upd_same ⟨hw _ _, cw_turn p2 (by omega) (ht i _ H1 (e.trans e1) gx) (fun hf => he i _ H1 (e.trans e1) gx hf)⟩
    · have hi' : i = xs.length := by omega
      subst hi'
      exact .inl ⟨⟨xs, qx, Nat.le_refl _⟩, q Dl H' (fresh_back e1 p.1) (e1.trans p.2.1) p.2.2⟩⟩⟩
def usedF (f : FlC) (ch : Nat) : List Nat := if ch = 0 then [] else (f.paths.map (·.links)).getD (ch - 1) []
theorem used_spec {c : NtC} {i : Nat} {f : FlC} (h : c.flows[i]? = some f) (ch : Nat) : c.spec.usedLinks i ch = usedF f ch := by
  unfold Su203.Network.usedLinks usedF
  rw [flow_of h]
  rfl
theorem usedF_succ {f : FlC} {k : Nat} {p : PaC} (h : f.paths[k]? = some p) : usedF f (k + 1) = p.links := by
  unfold usedF
  rw [if_neg (Nat.succ_ne_zero k), Nat.add_sub_cancel, List.getD_eq_getElem?_getD, List.getElem?_map, h]
  rfl
section
variable {P : Program} {w : World} {K : PySem.W.Frag} {mg : Str → Option Value} {base : Heap} {A : Adr}
/-! ### is_feasible -/
def sp_is_feasible (K : PySem.W.Frag) (A : Adr) : Sp := fun vs H Q _ => ∃ (c : NtC) (kb : Bool) (sa : Addr) (s : List Nat), vs = [.ref c.a, .ref sa] ∧ Hold H (c.cells A) ∧ SqB K kb H sa (nats s) ∧ Wf c ∧ Fits c s ∧ RetV (.bl (c.spec.isFeasible s)) H Q
theorem use_is_feasible {H : Hp} {c : NtC} {kb : Bool} {sa : Addr} {s : List Nat} (h : Hold H (c.cells A)) (hn : SqB K kb H sa (nats s)) (wf : Wf c) (ft : Fits c s) : SpV (sp_is_feasible K A) [.ref c.a, .ref sa] H (.bl (c.spec.isFeasible s)) := fun _ e _ q _ => ⟨c, kb, sa, s, rfl, h.mono e, ex_b e hn, wf, ft, q⟩
theorem spec_links {c : NtC} : c.spec.links.length = c.links.length := List.length_map _
theorem ok_is_feasible (T : Txt K mg A) (k_loads_under : Cal P w K mg base 1 "loads_under" (sp_loads_under K A)) {f : Addr} {fd : FuncData} (F : Fun K "is_feasible" "is_feasible" s_is_feasible f fd) (g : mg "is_feasible" = some (.ref f)) (b : Binds K fd ["network", "assignment"] []) : Cal P w K mg base 2 "is_feasible" (sp_is_feasible K A) := by
  refine ⟨f, fd, _, [], F.ok sc_is_feasible (fun vs H Q E h => ?_) (fun cdv A' outer s H vs Q E hr h => ?_), g, F.kp, b, .nil⟩
  · obtain ⟨c, kb, na, ns, rfl, _⟩ := h
    rfl
  · obtain ⟨c, kb, sa, s, rfl, hc, hs, wf, ft, k⟩ := h
    refine ⟨_, (pss_cons (ps_for PassesOwn.never rfl (pi_zip (by rfl) T.b_zip (pa_cons (pe_c k_loads_under hr (by decide) rfl (pa_cons (pv 0) (pa_cons (pv 1) pa_nil))) (pa_cons (pe_fld (pv 0) rfl) pa_nil))) (pg_tup rfl (pgs_cons (pg_name (i := 2) sc_is_feasible.nd rfl (.inl rfl)) (pgs_cons (pg_name (i := 3) sc_is_feasible.nd rfl (.inl rfl)) pgs_nil))) (pss_one (ps_if (pt_cmpR op_gt (pv 2) (pe_fld (pv 3) rfl) (nomark _)) (pss_one (ps_ret pe_bl)) pss_nil))) (pss_one (ps_ret pe_bl))), ?_⟩
    refine q_forZn (b := c.la) (xs := nats (loadsOf c s)) (ys := c.lrefs) (el_call (ea_cons (ev_var rfl) (ea_cons (ev_var rfl) ea_nil)) (use_loads_under hc hs wf ft)) (evN1 T hc (ev_var rfl)) (sq_of (NtC.hL hc))
      (fun a i σ' H' => (∃ y2 y3, σ' = [some (.ref c.a), some (.ref sa), y2, y3]) ∧ Ex H H' ∧ H' a = some (.lst (nats (loadsOf c s))) ∧ ∀ j, j < i → c.spec.load s j ≤ (c.spec.link j).capacity)
      (fun a H2 na e2 ha => ⟨⟨none, none, rfl⟩, e2, ha, fun j hj => absurd hj (Nat.not_lt_zero _)⟩)
      (fun a i σ' H' p => ⟨sq_of p.2.2.1, sq_of (p.2.1 _ _ (NtC.hL hc))⟩) ?_ ?_
    · rintro a i x y σ' H' hx hy ⟨⟨y2, y3, rfl⟩, e2, ha, hno⟩ H1 e3
      obtain ⟨l, hl', rfl⟩ := refs_get hy
      have hi : i < c.links.length := (List.getElem?_eq_some_iff.mp hl').1
      obtain ⟨m, hm, rfl⟩ := nats_at hx
      have em : m = c.spec.load s i := by
        rw [show loadsOf c s = rowOf c.links.length fun j => c.spec.load s j from rfl, rowOf_get hi] at hm
        exact (Option.some.inj hm).symm
      subst em
      have hL := NtC.hLk (hc.mono (e2.trans e3)) hl'
      refine s_when (b := decide (l.c < c.spec.load s i)) (et_test (ev_gtN (ev_var rfl) (evL2 T hL (ev_var rfl)))) (fun hb H3 e4 => ?_) (fun hb H3 e4 => ?_)
      · refine s_ret ev_c fun H4 e5 => ?_
        have r := k H4 (((e2.trans e3).trans e4).trans e5)
        have hf : c.spec.isFeasible s = false := by
          rw [← Bool.not_eq_true, FmS.feasible_iff]
          intro z
          have z1 := z i (by rw [spec_links]; exact hi)
          rw [link_of hl'] at z1
          have := of_decide_eq_true hb
          have z1 : c.spec.load s i ≤ l.c := z1
          omega
        rw [hf] at r
        exact r
      · refine ⟨⟨_, _, rfl⟩, (e2.trans e3).trans e4, e4 _ _ (e3 _ _ ha), fun j hj => ?_⟩
        by_cases e : j = i
        · subst e
          rw [link_of hl']
          exact Nat.not_lt.mp (of_decide_eq_false hb)
        · exact hno j (by omega)
    · rintro a σ' H' ⟨⟨y2, y3, rfl⟩, e2, ha, hno⟩
      refine s_ret ev_c fun H4 e5 => ?_
      have r := k H4 (e2.trans e5)
      rw [nats_len, List.length_map, show (loadsOf c s).length = c.links.length from rowOf_len _ _, Nat.min_self] at hno
      have hf : c.spec.isFeasible s = true := by
        rw [FmS.feasible_iff]
        intro j hj
        rw [spec_links] at hj
        exact hno j hj
      rw [hf] at r
      exact r
/-! ### uses_link -/
def sp_uses_link (A : Adr) : Sp := fun vs H Q _ => ∃ (f : FlC) (ch k : Nat), vs = [.ref f.a, .int ch, .int k] ∧ Hold H (f.cells A) ∧ ch ≤ f.paths.length ∧ RetV (.bl ((usedF f ch).contains k)) H Q
theorem use_uses_link {H : Hp} {f : FlC} {ch k : Nat} (h : Hold H (f.cells A)) (hl : ch ≤ f.paths.length) : SpV (sp_uses_link A) [.ref f.a, .int ch, .int k] H (.bl ((usedF f ch).contains k)) := fun _ e _ q _ => ⟨f, ch, k, rfl, h.mono e, hl, q⟩
theorem ok_uses_link (T : Txt K mg A) {f : Addr} {fd : FuncData} (F : Fun K "uses_link" "uses_link" s_uses_link f fd) (g : mg "uses_link" = some (.ref f)) (b : Binds K fd ["flow", "choice", "link"] []) : Cal P w K mg base 1 "uses_link" (sp_uses_link A) := by
  refine ⟨f, fd, _, [], F.ok sc_uses_link (fun vs H Q E h => ?_) (fun cdv A' outer s H vs Q E hr h => ?_), g, F.kp, b, .nil⟩
  · obtain ⟨f, ch, k, rfl, _⟩ := h
    rfl
  · obtain ⟨f, ch, kl, rfl, hf, hl, k⟩ := h
    refine ⟨_, (pss_one (ps_ret (pe_and (pe_cmpR op_gt (pv 1) pe_int (nomark _)) (pe_one (pe_cmpR op_in_seq (pv 2) (pe_fld (pe_ix ix_list (pe_fld (pv 0) rfl) (pe_op op_sub (pv 1) pe_int) (fun _ _ => rfl)) rfl) (by rfl)))))), ?_⟩
    refine s_ret (ev_andV (a := decide (0 < ch)) (b := (usedF f ch).contains kl) (ev_gtN (ev_var rfl) (ev_nat 0)) fun hb => ?_) fun H1 e1 => ?_
    · obtain ⟨kk, rfl⟩ : ∃ kk, ch = kk + 1 := ⟨ch - 1, by have := of_decide_eq_true hb; omega⟩
      have hk : kk < f.paths.length := by omega
      have gp : f.paths[kk]? = some f.paths[kk] := List.getElem?_eq_getElem hk
      generalize f.paths[kk] = pp at gp
      have hp := FlC.hPa hf gp
      rw [usedF_succ gp, ← inV_nats]
      exact ev_op (ev_var rfl) (evP1 T hp (ev_ixR (K := K) (evF3 T hf (ev_var rfl)) (ev_subN (ev_var rfl) (ev_nat 1) (Nat.le_add_left _ _)) (sq_of (FlC.hP hf)) gp)) (rv_isL (sq_of (PaC.hL hp)) rfl (flat_nats _))
    · have r := k H1 e1
      have e : (decide (0 < ch) && (usedF f ch).contains kl) = (usedF f ch).contains kl := by
        cases ch with
        | zero => rfl
        | succ n => rw [decide_eq_true (Nat.succ_pos n), Bool.true_and]
      rw [e]
      exact r
/-! ### links_at -/
def sp_links_at (A : Adr) : Sp := fun vs H Q _ => ∃ (c : NtC) (v : Nat), vs = [.ref c.a, .int v] ∧ Hold H (c.cells A) ∧ Wf c ∧ RetL (nats (c.spec.linksOfNode v)) H Q
theorem use_links_at {H : Hp} {c : NtC} {v : Nat} (h : Hold H (c.cells A)) (wf : Wf c) : SpL (sp_links_at A) [.ref c.a, .int v] H (nats (c.spec.linksOfNode v)) := fun _ e _ q _ => ⟨c, v, rfl, h.mono e, wf, q⟩
theorem inV_two (a b v : Nat) : inV (.int (v : Int)) [.int (a : Int), .int (b : Int)] = (a == v || b == v) := by
  show (((a : Int) == (v : Int)) || (((b : Int) == (v : Int)) || false)) = _
  rw [Bool.or_false, cast_beq, cast_beq]
theorem ok_links_at (T : Txt K mg A) {f : Addr} {fd : FuncData} (F : Fun K "links_at" "links_at" s_links_at f fd) (g : mg "links_at" = some (.ref f)) (b : Binds K fd ["network", "node"] []) : Cal P w K mg base 1 "links_at" (sp_links_at A) := by
  refine ⟨f, fd, _, [], F.ok sc_links_at (fun vs H Q E h => ?_) (fun cdv A' outer s H vs Q E hr h => ?_), g, F.kp, b, .nil⟩
  · obtain ⟨c, v, rfl, _⟩ := h
    rfl
  · obtain ⟨c, v, rfl, hc, wf, k⟩ := h
    refine ⟨_, (pss_one (ps_ret (pe_lc (g := zipG K 2 3) (tt := tTest (tOp (rIn K false) (tVar 1) (tTup (tCons (tFld K (tVar 3) "node_a") (tCons (tFld K (tVar 3) "node_b") tNil))))) (own := [("index", 2), ("link", 3)]) rfl sc_links_at.nd (pi_enum (by rfl) T.b_enumerate (pa_cons (pe_fld (pv 0) rfl) pa_nil)) (blkOk_by (own := [("index", 2), ("link", 3)]) (N := N_links_at) (sc := defScope s_links_at) (by decide +kernel)) (fun _ _ _ _ _ => (pg_tup rfl (pgs_cons (pg_name (i := 2) sc_links_at.nd rfl (.inl rfl)) (pgs_cons (pg_name (i := 3) sc_links_at.nd rfl (.inl rfl)) pgs_nil)))) (fun _ _ _ _ _ => (pts_one (pt_cmpR op_in_seq (pv 1) (pe_tup (pa_cons (pe_fld (pv 3) rfl) (pa_cons (pe_fld (pv 3) rfl) pa_nil))) (by rfl)))) (fun _ _ _ _ _ => (pv 2))))), ?_⟩
    refine s_retL (el_lcE (a := c.la) (xs := c.lrefs) (fun i => (c.spec.link i).endA == v || (c.spec.link i).endB == v) (fun i => .int (i : Int)) (ea_cons (evN1 T hc (ev_var rfl)) ea_nil) (sq_of (NtC.hL hc)) (by rw [List.length_map]; have := wf.1; omega) (fun _ _ => rfl) (fun i x H1 e1 hx => ?_) (fun i x H1 e1 hx _ => ?_)) fun p H1 hp e1 hl => ?_
    · obtain ⟨l, hl', rfl⟩ := refs_get hx
      have hL := NtC.hLk (hc.mono e1) hl'
      rw [link_of hl']
      have r := ev_inU (K := K) (σ := [some (.ref c.a), some (.int v), some (.int (i : Int)), some (.ref l.a)]) (ev_var (i := 1) rfl) (eu_tup (ea_cons (evL0 T hL (ev_var (i := 3) rfl)) (ea_cons (evL1 T hL (ev_var (i := 3) rfl)) ea_nil)) (by show 2 ≤ 100000; decide)) rfl rfl
      rw [inV_two] at r
      exact et_test r
    · exact ev_var rfl
    · refine k p H1 hp e1 ?_
      rw [hl, List.length_map]
      unfold given Su203.Network.linksOfNode
      rw [spec_links]
end
end Fm

set_option Elab.async false
set_option linter.all false
set_option maxRecDepth 100000
set_option maxHeartbeats 4000000
/-! Moves: paths_to_enter, allowed_moves, after_move, current_assignment, tell_moves, tell_plan. -/
namespace Fm
open C8 (pe_c pe_mk pe_gc)
open PySem PySem.Spec PyProof.Rows L2 Evl FmS
/-! ### a list of moves: pairs of a flow and a path -/
def MvT (H : Hp) (p : Addr) (ts : List Addr) (ms : List Mv) : Prop := H p = some (.lst (ts.map V.ref)) ∧ ts.length = ms.length ∧ ∀ (i : Nat) t m, ts[i]? = some t → ms[i]? = some m → H t = some (.tup [.int (m.1 : Nat), .int ((m.2 - 1 : Nat) : Int)])
theorem MvT.ex {H H' : Hp} {p : Addr} {ts : List Addr} {ms : List Mv} (h : MvT H p ts ms) (e : Ex H H') : MvT H' p ts ms := ⟨e _ _ h.1, h.2.1, fun i t m a b => e _ _ (h.2.2 i t m a b)⟩
theorem MvT.mem {H : Hp} {p : Addr} {ts : List Addr} {ms : List Mv} (h : MvT H p ts ms) {i : Nat} {t : Addr} (ht : ts[i]? = some t) : ∃ m, ms[i]? = some m ∧ H t = some (.tup [.int (m.1 : Nat), .int ((m.2 - 1 : Nat) : Int)]) := by
  have hi := (List.getElem?_eq_some_iff.mp ht).1
  have g : ms[i]? = some (ms[i]'(by rw [← h.2.1]; exact hi)) := List.getElem?_eq_getElem _
  exact ⟨_, g, h.2.2 i t _ ht g⟩
/-- an object that is none of its own is written -/
theorem MvT.upd {H : Hp} {p d : Addr} {o : HO} {ts : List Addr} {ms : List Mv} (h : MvT H p ts ms) (h1 : p ≠ d) (h2 : ∀ xs, H d ≠ some (.tup xs)) : MvT (upd H d o) p ts ms := by
  refine ⟨by rw [upd_ne h1]; exact h.1, h.2.1, fun i t m a b => ?_⟩
  have e := h.2.2 i t m a b
  rw [upd_ne (fun z => h2 _ (by rw [← z]; exact e))]
  exact e
theorem MvT.snoc {H H' : Hp} {p t : Addr} {ts : List Addr} {ms : List Mv} {m : Mv} (h : MvT H p ts ms) (e : Ex H H') (ht : H' t = some (.tup [.int (m.1 : Nat), .int ((m.2 - 1 : Nat) : Int)])) : MvT (L2.upd H' p (.lst (ts.map V.ref ++ [.ref t]))) p (ts ++ [t]) (ms ++ [m]) := by
  have ne : ∀ u xs, H' u = some (.tup xs) → u ≠ p := fun u xs hu z => by
    rw [z, e _ _ h.1] at hu
    cases hu
  refine ⟨?_, by rw [List.length_append, List.length_append, h.2.1]; rfl, fun i u m' a b => ?_⟩
  · rw [upd_same, List.map_append]
    rfl
  · by_cases hi : i < ts.length
    · rw [List.getElem?_append_left hi] at a
      rw [List.getElem?_append_left (by rw [← h.2.1]; exact hi)] at b
      have q := e _ _ (h.2.2 i u m' a b)
      rw [upd_ne (ne _ _ q)]
      exact q
    · rw [List.getElem?_append_right (Nat.not_lt.mp hi)] at a
      rw [List.getElem?_append_right (by rw [← h.2.1]; exact Nat.not_lt.mp hi), ← h.2.1] at b
      have eu := List.mem_singleton.mp (List.mem_of_getElem? a)
      have em := List.mem_singleton.mp (List.mem_of_getElem? b)
      subst eu em
      rw [upd_ne (ne _ _ ht)]
      exact ht
theorem MvT.nil {H : Hp} {p : Addr} (h : H p = some (.lst [])) : MvT H p [] [] := ⟨h, rfl, fun i t m a b => by simp at a⟩
/-- evaluates to a new list of moves -/
def EvM (te : TE) (σ : L2.St) (H : Hp) (ms : List Mv) : Prop := ∀ H1, Ex H H1 → ∀ Q : VK, (∀ p ts H2, H1 p = none → Ex H1 H2 → MvT H2 p ts ms → Q (.ref p) H2) → te σ H1 Q
def RetM (ms : List Mv) (H : Hp) (Q : VK) : Prop := ∀ p ts H2, H p = none → Ex H H2 → MvT H2 p ts ms → Q (.ref p) H2
def SpM (sp : Sp) (vs : List V) (H : Hp) (ms : List Mv) : Prop := ∀ H1, Ex H H1 → ∀ Q : VK, (∀ p ts H2, H1 p = none → Ex H1 H2 → MvT H2 p ts ms → Q (.ref p) H2) → ∀ E : XK, sp vs H1 Q E
def SpU (sp : Sp) (vs : List V) (H : Hp) (xs : List V) : Prop := ∀ H1, Ex H H1 → ∀ Q : VK, (∀ p H2, H1 p = none → Ex H1 H2 → H2 p = some (.tup xs) → Q (.ref p) H2) → ∀ E : XK, sp vs H1 Q E
def RetU (xs : List V) (H : Hp) (Q : VK) : Prop := ∀ p H2, H p = none → Ex H H2 → H2 p = some (.tup xs) → Q (.ref p) H2
section
variable {K : PySem.W.Frag} {σ : L2.St} {H H' : Hp} {ta tb te tx : TE} {t u : TT} {x y z v : V} {D : Ends} {tu tz : TS} {tA : TA}
theorem em_call {sp : Sp} {vs : List V} {ms : List Mv} (h : EvA tA σ H vs) (hs : SpM sp vs H ms) : EvM (tCall sp [] E0 tA) σ H ms := fun H1 e Q q => h H1 e _ fun H2 e2 => by
  show sp (vs ++ []) H2 Q E0
  rw [List.append_nil]
  exact hs H2 (e.trans e2) Q (fun p ts H3 hp e3 hm => q p ts H3 (fresh_back e2 hp) (e2.trans e3) hm) E0
theorem eu_call {sp : Sp} {vs xs : List V} (h : EvA tA σ H vs) (hs : SpU sp vs H xs) : EvU (tCall sp [] E0 tA) σ H xs := fun H1 e Q q => h H1 e _ fun H2 e2 => by
  show sp (vs ++ []) H2 Q E0
  rw [List.append_nil]
  exact hs H2 (e.trans e2) Q (fun p H3 hp e3 hm => q p H3 (fresh_back e2 hp) (e2.trans e3) hm) E0
/-- the third argument is a new list -/
theorem ev_call3L {sp : Sp} {t1 t2 t3 t4 : TE} {v1 v2 v4 : V} {xs : List V} (h1 : Ev t1 σ H v1) (h2 : Ev t2 σ H v2) (h3 : EvL t3 σ H xs) (h4 : Ev t4 σ H v4) (hs : ∀ p H1, Ex H H1 → H1 p = some (.lst xs) → SpV sp [v1, v2, .ref p, v4] H1 z) :
    Ev (tCall sp [] E0 (tCons t1 (tCons t2 (tCons t3 (tCons t4 tNil))))) σ H z := fun H1 e Q q =>
  h1 H1 e _ fun H2 e2 => h2 H2 (e.trans e2) _ fun H3 e3 => h3 H3 ((e.trans e2).trans e3) _ fun p H4 _ e4 hp => h4 H4 (((e.trans e2).trans e3).trans e4) _ fun H5 e5 => by
    show sp ([v1, v2, .ref p, v4] ++ []) H5 Q E0
    rw [List.append_nil]
    exact hs p H5 ((((e.trans e2).trans e3).trans e4).trans e5) (e5 _ _ hp) H5 (Ex.refl H5) Q (fun H6 e6 => q H6 ((((e2.trans e3).trans e4).trans e5).trans e6)) E0
/-- for f, p in a new list of moves -/
theorem s_forM {ms : List Mv} {i1 i2 : Nat} (h : EvM te σ H ms) (Pv : Addr → List Addr → Nat → L2.St → Hp → Prop) (h0 : ∀ p ts H1, H p = none → Ex H H1 → MvT H1 p ts ms → Pv p ts 0 σ H1) (hl : ∀ p ts i σ' H', Pv p ts i σ' H' → MvT H' p ts ms)
    (hs : ∀ p ts i m σ' H', ms[i]? = some m → Pv p ts i σ' H' → tu { D with nx := Pv p ts (i + 1), ct := Pv p ts (i + 1), bk := D.nx } ((σ'.set i1 (some (.int (m.1 : Nat)))).set i2 (some (.int ((m.2 - 1 : Nat) : Int)))) H')
    (hd : ∀ p ts σ' H', Pv p ts ms.length σ' H' → D.nx σ' H') : tFor (iList K te) (zipG K i1 i2) tu D σ H :=
  h H (Ex.refl H) _ fun p ts H1 hp e hm => ⟨p, rfl, ⟨ts.map V.ref, sq_of hm.1⟩, for_list (Pv p ts) (h0 p ts H1 hp e hm) (fun i σ' H' _ q => sq_of (hl p ts i σ' H' q).1) (fun i x σ' H' hx q => by
    obtain ⟨t, ht, rfl⟩ := refs_get hx
    have hm' := hl p ts i σ' H' q
    obtain ⟨m, hmm, e⟩ := hm'.mem ht
    exact zipG_go e (hs p ts i m σ' H' hmm q)) (fun σ' H' q => hd p ts σ' H' (by
    have hm' := (hl p ts _ σ' H' q).2.1
    rw [List.length_map, hm'] at q
    exact q))⟩
/-- .. in one that stands -/
theorem s_forMo {ms : List Mv} {i1 i2 : Nat} {p : Addr} {ts : List Addr} (h : Ev te σ H (.ref p)) (hm : MvT H p ts ms) (Pv : Nat → L2.St → Hp → Prop) (h0 : ∀ H1, Ex H H1 → Pv 0 σ H1) (hl : ∀ i σ' H', Pv i σ' H' → MvT H' p ts ms)
    (hs : ∀ i m σ' H', ms[i]? = some m → Pv i σ' H' → tu { D with nx := Pv (i + 1), ct := Pv (i + 1), bk := D.nx } ((σ'.set i1 (some (.int (m.1 : Nat)))).set i2 (some (.int ((m.2 - 1 : Nat) : Int)))) H')
    (hd : ∀ σ' H', Pv ms.length σ' H' → D.nx σ' H') : tFor (iList K te) (zipG K i1 i2) tu D σ H :=
  h H (Ex.refl H) _ fun H1 e => ⟨p, rfl, ⟨ts.map V.ref, sq_of (hm.ex e).1⟩, for_list Pv (h0 H1 e) (fun i σ' H' _ q => sq_of (hl i σ' H' q).1) (fun i x σ' H' hx q => by
    obtain ⟨t, ht, rfl⟩ := refs_get hx
    obtain ⟨m, hmm, e⟩ := (hl i σ' H' q).mem ht
    exact zipG_go e (hs i m σ' H' hmm q)) (fun σ' H' q => hd σ' H' (by
    rw [List.length_map, hm.2.1] at q
    exact q))⟩
/-- for t in a list of moves that stands: t the pair -/
theorem s_forMt {ms : List Mv} {i1 : Nat} {p : Addr} {ts : List Addr} (h : Ev te σ H (.ref p)) (hm : MvT H p ts ms) (Pv : Nat → L2.St → Hp → Prop) (h0 : ∀ H1, Ex H H1 → Pv 0 σ H1) (hl : ∀ i σ' H', Pv i σ' H' → MvT H' p ts ms)
    (hs : ∀ i t m σ' H', ms[i]? = some m → H' t = some (.tup [.int (m.1 : Nat), .int ((m.2 - 1 : Nat) : Int)]) → Pv i σ' H' → tu { D with nx := Pv (i + 1), ct := Pv (i + 1), bk := D.nx } (σ'.set i1 (some (.ref t))) H')
    (hd : ∀ σ' H', Pv ms.length σ' H' → D.nx σ' H') : tFor (iList K te) (gName i1) tu D σ H :=
  h H (Ex.refl H) _ fun H1 e => ⟨p, rfl, ⟨ts.map V.ref, sq_of (hm.ex e).1⟩, for_list Pv (h0 H1 e) (fun i σ' H' _ q => sq_of (hl i σ' H' q).1) (fun i x σ' H' hx q => by
    obtain ⟨t, ht, rfl⟩ := refs_get hx
    obtain ⟨m, hmm, e⟩ := (hl i σ' H' q).mem ht
    exact hs i t m σ' H' hmm e q) (fun σ' H' q => hd σ' H' (by
    rw [List.length_map, hm.2.1] at q
    exact q))⟩
/-- xs.extend(t) -/
theorem s_extT {l b : Addr} {xs ys : List V} (hl : H l = some (.lst xs)) (ha : Ev ta σ H (.ref l)) (hb : Ev tb σ H (.ref b)) (hy : H b = some (.tup ys)) (hz : xs.length + ys.length ≤ 100000) (k : ∀ H1, Ex H H1 → D.nx σ (upd H1 l (.lst (xs ++ ys)))) :
    tDrop (tBM K "list" (rExtendB K) ta (tCons tb tNil)) D σ H :=
  ha H (Ex.refl H) _ fun H1 e1 => ⟨.inl ⟨rfl, xs, sq_of (e1 _ _ hl)⟩, hb H1 e1 _ fun H2 e2 => ⟨l, b, xs, ys, rfl, rfl, (e1.trans e2) _ _ hl, (e1.trans e2) _ _ hy, sz_of hz, k H2 (e1.trans e2)⟩⟩
end
end Fm

set_option Elab.async false
set_option linter.all false
set_option maxRecDepth 100000
set_option maxHeartbeats 4000000
/-! paths_to_enter, allowed_moves, after_move, current_assignment. -/
namespace Fm
open C8 (pe_c pe_mk pe_gc)
open PySem PySem.Spec PyProof.Rows L2 Evl FmS
theorem flen {f : FlC} : f.spec.pathLinks.length = f.paths.length := List.length_map _
theorem all_filter_or (l : List Nat) (q r : Nat → Bool) : (l.filter fun k => !q k).all r = l.all fun k => q k || r k := by
  induction l with
  | nil => rfl
  | cons a l ih =>
    rw [List.filter_cons]
    cases e : q a with
    | true =>
      rw [Bool.not_true, if_neg Bool.false_ne_true, ih, List.all_cons, e, Bool.true_or, Bool.true_and]
    | false =>
      rw [Bool.not_false, if_pos rfl, List.all_cons, List.all_cons, ih, e, Bool.false_or]
section
variable {c : NtC}
theorem canMove_eq {g : FlC} {pp qq : PaC} {kk p i : Nat} {s : List Nat} (hg : c.flows[i]? = some g) (hs : s.getD i 0 = kk + 1) (hq : g.paths[kk]? = some qq) (hp : g.paths[p]? = some pp) (hne : kk ≠ p) :
    c.spec.canMove s i (p + 1) = roomFor c s (pp.links.filter fun k => !qq.links.contains k) g.d := by
  unfold Su203.Network.canMove roomFor
  rw [hs, used_of hg hp, used_of hg hq, flow_of hg, flen, all_filter_or]
  have h1 := (List.getElem?_eq_some_iff.mp hp).1
  have e1 : (kk + 1 != 0) = true := rfl
  have e2 : (p + 1 != 0) = true := rfl
  have e3 : decide (p + 1 ≤ g.paths.length) = true := decide_eq_true h1
  have e4 : (kk + 1 != p + 1) = true := by simpa using hne
  rw [e1, e2, e3, e4, Bool.true_and, Bool.true_and, Bool.true_and, Bool.true_and]
  rfl
theorem canMove_zero {s : List Nat} {i p : Nat} (hs : s.getD i 0 = 0) : c.spec.canMove s i p = false := by
  unfold Su203.Network.canMove
  rw [hs]
  rfl
theorem canMove_same {s : List Nat} {i p : Nat} (hs : s.getD i 0 = p) : c.spec.canMove s i p = false := by
  unfold Su203.Network.canMove
  rw [hs]
  simp
/-- the paths that flow i may be moved to -/
def enterL (c : NtC) (s : List Nat) (i : Nat) : List Nat := (List.range (c.spec.flow i).pathLinks.length).filter fun p => c.spec.canMove s i (p + 1)
theorem moves_eq (c : NtC) (s : List Nat) : c.spec.moves s = (List.range c.flows.length).flatMap fun i => (enterL c s i).map fun p => (i, p + 1) := by
  unfold Su203.Network.moves Su203.Network.flowIndices enterL
  rw [show c.spec.flows.length = c.flows.length from List.length_map _]
theorem range_take (n i : Nat) (h : i ≤ n) : (List.range n).take i = List.range i := by
  rw [List.take_range, Nat.min_eq_left h]
end
section
variable {P : Program} {w : World} {K : PySem.W.Frag} {mg : Str → Option Value} {base : Heap} {A : Adr}
/-! ### paths_to_enter -/
def sp_paths_to_enter (K : PySem.W.Frag) (A : Adr) : Sp := fun vs H Q _ => ∃ (c : NtC) (lo : Addr) (i : Nat) (f : FlC) (s : List Nat), vs = [.ref c.a, .ref lo, .ref f.a, .int (s.getD i 0 : Nat)] ∧ Hold H (c.cells A) ∧ c.flows[i]? = some f ∧ SqL K H lo (nats (loadsOf c s)) ∧ Wf c ∧ s.getD i 0 ≤ f.paths.length ∧ RetL (nats (enterL c s i)) H Q
theorem use_paths_to_enter {H : Hp} {c : NtC} {lo : Addr} {i : Nat} {f : FlC} {s : List Nat} (h : Hold H (c.cells A)) (hf : c.flows[i]? = some f) (hl : SqL K H lo (nats (loadsOf c s))) (wf : Wf c) (ft : s.getD i 0 ≤ f.paths.length) : SpL (sp_paths_to_enter K A) [.ref c.a, .ref lo, .ref f.a, .int (s.getD i 0 : Nat)] H (nats (enterL c s i)) := fun _ e _ q _ => ⟨c, lo, i, f, s, rfl, h.mono e, hf, ex_l e hl, wf, ft, q⟩
theorem ok_paths_to_enter (T : Txt K mg A) (k_has_room : Cal P w K mg base 1 "has_room" (sp_has_room K A)) (k_links_entered : Cal P w K mg base 1 "links_entered" (sp_links_entered A)) {f : Addr} {fd : FuncData} (F : Fun K "paths_to_enter" "paths_to_enter" s_paths_to_enter f fd) (g : mg "paths_to_enter" = some (.ref f)) (b : Binds K fd ["network", "loads", "flow", "choice"] []) : Cal P w K mg base 2 "paths_to_enter" (sp_paths_to_enter K A) := by
  refine ⟨f, fd, _, [], F.ok sc_paths_to_enter (fun vs H Q E h => ?_) (fun cdv A' outer s H vs Q E hr h => ?_), g, F.kp, b, .nil⟩
  · obtain ⟨c, lo, i, f, s, rfl, _⟩ := h
    rfl
  · obtain ⟨c, lo, i, f, s, rfl, hc, hf, hlo, wf, hch, k⟩ := h
    refine ⟨_, (pss_cons (ps_if (pt_cmpR op_eq (pv 3) pe_int (nomark _)) (pss_one (ps_ret (pe_lst pa_nil))) pss_nil) (pss_cons (ps_set (i := 4) sc_paths_to_enter.nd rfl (.inl rfl) (pe_ix ix_list (pe_fld (pv 2) rfl) (pe_op op_sub (pv 3) pe_int) (fun _ _ => rfl))) (pss_cons (ps_set (i := 5) sc_paths_to_enter.nd rfl (.inl rfl) (pe_lst pa_nil)) (pss_cons (ps_for PassesOwn.never rfl (pi_enum (by rfl) T.b_enumerate (pa_cons (pe_fld (pv 2) rfl) pa_nil)) (pg_tup rfl (pgs_cons (pg_name (i := 6) sc_paths_to_enter.nd rfl (.inl rfl)) (pgs_cons (pg_name (i := 7) sc_paths_to_enter.nd rfl (.inl rfl)) pgs_nil))) (pss_one (ps_if (PW.pt (pw_and (pt_cmpR op_ne (pv 6) (pe_op op_sub (pv 3) pe_int) (nomark _)) (pw_and1 (pt_val (pe_c k_has_room hr (by decide) rfl (pa_cons (pv 0) (pa_cons (pv 1) (pa_cons (pe_c k_links_entered hr (by decide) rfl (pa_cons (pv 4) (pa_cons (pv 7) pa_nil))) (pa_cons (pe_fld (pv 2) rfl) pa_nil))))))))) (pss_one (ps_expr (pe_bm PySem.F.plainAttrs_list PySem.F.slot_list_append PySem.F.type_list_append mt_append (pv 5) (pa_cons (pv 6) pa_nil)))) pss_nil))) (pss_one (ps_ret (pv 5))))))), ?_⟩
    have hfl := NtC.hFl hc hf
    have hfo := wf.2.2 f (List.mem_of_getElem? hf)
    have el : (c.spec.flow i).pathLinks.length = f.paths.length := by rw [flow_of hf, flen]
    generalize hgs : s.getD i 0 = ch at hch
    refine q_when (b := decide (ch = 0)) (et_test (ev_eqN (ev_var rfl) (ev_nat 0))) (fun hb H1 e1 => ?_) (fun hb H1 e1 => ?_)
    · have h0 := of_decide_eq_true hb
      subst h0
      refine s_retL (el_lst ea_nil (Nat.zero_le _)) fun p H2 hp e2 hl => ?_
      refine k p H2 (fresh_back e1 hp) (e1.trans e2) ?_
      have e : enterL c s i = [] := by
        unfold enterL
        rw [List.filter_eq_nil_iff]
        intro p _ z
        rw [canMove_zero hgs] at z
        cases z
      rw [e]
      exact hl
    · have h0 := of_decide_eq_false hb
      obtain ⟨kk, rfl⟩ : ∃ kk, ch = kk + 1 := ⟨ch - 1, by omega⟩
      have hk : kk < f.paths.length := by omega
      have gp : f.paths[kk]? = some f.paths[kk] := List.getElem?_eq_getElem hk
      generalize f.paths[kk] = qq at gp
      have hf1 := hfl.mono e1
      refine q_asg (ev_ixR (K := K) (evF3 T hf1 (ev_var rfl)) (ev_subN (ev_var rfl) (ev_nat 1) (Nat.le_add_left _ _)) (sq_of (FlC.hP hf1)) gp) fun H2 e2 => ?_
      refine q_asgL (el_lst ea_nil (Nat.zero_le _)) fun fo H3 nfo e3 hfo' => ?_
      have e03 := (e1.trans e2).trans e3
      have hf3 := hfl.mono e03
      refine q_forE (a := f.pa) (xs := f.prefs) (ea_cons (evF3 T hf3 (ev_var rfl)) ea_nil) (sq_of (FlC.hP hf3)) (fun j σ' H' => (∃ y6 y7, σ' = [some (.ref c.a), some (.ref lo), some (.ref f.a), some (.int ((kk + 1 : Nat) : Int)), some (.ref qq.a), some (.ref fo), y6, y7]) ∧ Ex H H' ∧ H' fo = some (.lst (nats ((List.range j).filter fun p => c.spec.canMove s i (p + 1)))) ∧ j ≤ f.paths.length)
        (fun H4 e4 => ⟨⟨none, none, rfl⟩, e03.trans e4, e4 _ _ hfo', Nat.zero_le _⟩) (fun j σ' H' p => sq_of (p.2.1 _ _ (FlC.hP hfl))) ?_ ?_
      · rintro j x σ' H' hx ⟨⟨y6, y7, rfl⟩, e4, hl, hj⟩ H4 e5
        obtain ⟨pp, hpp, rfl⟩ := refs_get hx
        have hjl := (List.getElem?_eq_some_iff.mp hpp).1
        have e05 := e4.trans e5
        have hf4 := hfl.mono e05
        have hp4 := FlC.hPa hf4 hpp
        have hq4 := FlC.hPa hf4 gp
        have em : (!decide (j = kk) && roomFor c s (pp.links.filter fun k => !qq.links.contains k) f.d) = c.spec.canMove s i (j + 1) := by
          by_cases ej : j = kk
          · subst ej
            rw [decide_eq_true rfl, canMove_same hgs]
            rfl
          · rw [decide_eq_false ej, canMove_eq hf hgs gp hpp (fun z => ej z.symm)]
            rfl
        refine s_when (b := c.spec.canMove s i (j + 1)) (et_is (et_and (a := !decide (j = kk)) (b := roomFor c s (pp.links.filter fun k => !qq.links.contains k) f.d) (et_test (ev_neN (ev_var rfl) (ev_is (ev_subN (ev_var rfl) (ev_nat 1) (Nat.le_add_left _ _)) (by rw [Nat.add_sub_cancel])))) fun _ => et_B (ev_call3L (ev_var rfl) (ev_var rfl) (el_call (ea_cons (ev_var rfl) (ea_cons (ev_var rfl) ea_nil)) (use_links_entered hq4 hp4 (by have := (hfo.sh pp (List.mem_of_getElem? hpp)).2; omega))) (evF2 T hf4 (ev_var rfl)) fun p H6 e6 hp => use_has_room (hc.mono (e05.trans e6)) (ex_l (e05.trans e6) hlo) (sq_of hp) fun k hk => hfo.lt pp (List.mem_of_getElem? hpp) k (List.mem_filter.mp hk).1)) em) (fun hb H6 e6 => ?_) (fun hb H6 e6 => ?_)
        · refine s_app (xs := nats ((List.range j).filter fun p => c.spec.canMove s i (p + 1))) (e6 _ _ (e5 _ _ hl)) (ev_var rfl) (ev_var rfl) (by
            rw [nats_len]
            have h1 := List.length_filter_le (fun p => c.spec.canMove s i (p + 1)) (List.range j)
            rw [List.length_range] at h1
            have := hfo.few
            omega) fun H7 e7 => ?_
          refine ⟨⟨_, _, rfl⟩, Ex.mut ((e05.trans e6).trans e7) (fresh_back (e1.trans e2) nfo), ?_, hjl⟩
          rw [upd_same, List.range_succ, List.filter_append, List.filter_cons, if_pos hb]
          show some (HO.lst (nats _ ++ nats [j])) = _
          unfold nats
          rw [← List.map_append]
          rfl
        · refine ⟨⟨_, _, rfl⟩, e05.trans e6, ?_, hjl⟩
          rw [e6 _ _ (e5 _ _ hl), List.range_succ, List.filter_append, List.filter_cons, if_neg (by rw [hb]; decide)]
          show some (HO.lst (nats _)) = some (HO.lst (nats (_ ++ [])))
          rw [List.append_nil]
      · rintro σ' H' ⟨⟨y6, y7, rfl⟩, e4, hl, hj⟩
        refine s_ret (ev_var rfl) fun H5 e5 => ?_
        refine k fo H5 (fresh_back (e1.trans e2) nfo) (e4.trans e5) ?_
        rw [e5 _ _ hl, List.length_map]
        unfold enterL
        rw [el]
/-! ### allowed_moves -/
def sp_allowed_moves (K : PySem.W.Frag) (A : Adr) : Sp := fun vs H Q _ => ∃ (c : NtC) (kb : Bool) (sa : Addr) (s : List Nat), vs = [.ref c.a, .ref sa] ∧ Hold H (c.cells A) ∧ SqB K kb H sa (nats s) ∧ Wf c ∧ Fits c s ∧ RetM (c.spec.moves s) H Q
theorem use_allowed_moves {H : Hp} {c : NtC} {kb : Bool} {sa : Addr} {s : List Nat} (h : Hold H (c.cells A)) (hn : SqB K kb H sa (nats s)) (wf : Wf c) (ft : Fits c s) : SpM (sp_allowed_moves K A) [.ref c.a, .ref sa] H (c.spec.moves s) := fun _ e _ q _ => ⟨c, kb, sa, s, rfl, h.mono e, ex_b e hn, wf, ft, q⟩
def movesTo (c : NtC) (s : List Nat) (i : Nat) : List Mv := (List.range i).flatMap fun i => (enterL c s i).map fun p => (i, p + 1)
theorem movesTo_succ (c : NtC) (s : List Nat) (i : Nat) : movesTo c s (i + 1) = movesTo c s i ++ (enterL c s i).map fun p => (i, p + 1) := by
  unfold movesTo
  rw [List.range_succ, List.flatMap_append, List.flatMap_cons, List.flatMap_nil, List.append_nil]
theorem enterL_len {c : NtC} {i : Nat} {f : FlC} (s : List Nat) (wf : Wf c) (hf : c.flows[i]? = some f) : (enterL c s i).length ≤ 3 := by
  unfold enterL
  have h1 := List.length_filter_le (fun p => c.spec.canMove s i (p + 1)) (List.range (c.spec.flow i).pathLinks.length)
  rw [List.length_range, flow_of hf, flen] at h1
  have := (wf.2.2 f (List.mem_of_getElem? hf)).few
  rw [flow_of hf, flen]
  omega
theorem movesTo_len {c : NtC} (s : List Nat) (wf : Wf c) : ∀ i, i ≤ c.flows.length → (movesTo c s i).length ≤ 3 * i
  | 0, _ => Nat.le_refl _
  | i + 1, h => by
    have ih := movesTo_len s wf i (Nat.le_of_succ_le h)
    have h2 := enterL_len s wf (List.getElem?_eq_getElem (Nat.lt_of_succ_le h))
    rw [movesTo_succ, List.length_append, List.length_map]
    omega
theorem fits_get {c : NtC} {s : List Nat} (ft : Fits c s) {i : Nat} {f : FlC} (hf : c.flows[i]? = some f) : s[i]? = some (s.getD i 0) := by
  have h1 := (List.getElem?_eq_some_iff.mp hf).1
  have h2 : i < s.length := by rw [ft.1]; exact h1
  rw [List.getD_eq_getElem?_getD, List.getElem?_eq_getElem h2]
  rfl
theorem ok_allowed_moves (T : Txt K mg A) (k_loads_under : Cal P w K mg base 1 "loads_under" (sp_loads_under K A)) (k_paths_to_enter : Cal P w K mg base 2 "paths_to_enter" (sp_paths_to_enter K A)) {f : Addr} {fd : FuncData} (F : Fun K "allowed_moves" "allowed_moves" s_allowed_moves f fd) (g : mg "allowed_moves" = some (.ref f)) (b : Binds K fd ["network", "assignment"] []) : Cal P w K mg base 3 "allowed_moves" (sp_allowed_moves K A) := by
  refine ⟨f, fd, _, [], F.ok sc_allowed_moves (fun vs H Q E h => ?_) (fun cdv A' outer s H vs Q E hr h => ?_), g, F.kp, b, .nil⟩
  · obtain ⟨c, kb, sa, s, rfl, _⟩ := h
    rfl
  · obtain ⟨c, kb, sa, s, rfl, hc, hs, wf, ft, k⟩ := h
    refine ⟨_, (pss_cons (ps_set (i := 2) sc_allowed_moves.nd rfl (.inl rfl) (pe_c k_loads_under hr (by decide) rfl (pa_cons (pv 0) (pa_cons (pv 1) pa_nil)))) (pss_cons (ps_set (i := 3) sc_allowed_moves.nd rfl (.inl rfl) (pe_lst pa_nil)) (pss_cons (ps_for PassesOwn.never rfl (pi_enum (by rfl) T.b_enumerate (pa_cons (pe_fld (pv 0) rfl) pa_nil)) (pg_tup rfl (pgs_cons (pg_name (i := 4) sc_allowed_moves.nd rfl (.inl rfl)) (pgs_cons (pg_name (i := 5) sc_allowed_moves.nd rfl (.inl rfl)) pgs_nil))) (pss_one (ps_for PassesOwn.never rfl (pi_list (pe_c k_paths_to_enter hr (by decide) rfl (pa_cons (pv 0) (pa_cons (pv 2) (pa_cons (pv 5) (pa_cons (pe_ix ix_b (pv 1) (pv 4) (fun _ _ => rfl)) pa_nil)))))) (pg_name (i := 6) sc_allowed_moves.nd rfl (.inl rfl)) (pss_one (ps_expr (pe_bm PySem.F.plainAttrs_list PySem.F.slot_list_append PySem.F.type_list_append mt_append (pv 3) (pa_cons (pe_tup (pa_cons (pv 4) (pa_cons (pv 6) pa_nil))) pa_nil))))))) (pss_one (ps_ret (pv 3)))))), ?_⟩
    refine q_asgL (el_call (ea_cons (ev_var rfl) (ea_cons (ev_var rfl) ea_nil)) (use_loads_under hc hs wf ft)) fun lo H1 nlo e1 hlo => ?_
    refine q_asgL (el_lst ea_nil (Nat.zero_le _)) fun mo H2 nmo e2 hmo => ?_
    have e02 := e1.trans e2
    have hc2 := hc.mono e02
    have nmo0 : H mo = none := fresh_back e1 nmo
    refine q_forE (a := c.fa) (xs := c.frefs) (ea_cons (evN2 T hc2 (ev_var rfl)) ea_nil) (sq_of (NtC.hF hc2)) (fun i σ' H' => (∃ y4 y5 y6, σ' = [some (.ref c.a), some (.ref sa), some (.ref lo), some (.ref mo), y4, y5, y6]) ∧ Ex H H' ∧ H' lo = some (.lst (nats (loadsOf c s))) ∧ (∃ ts, MvT H' mo ts (movesTo c s i)) ∧ i ≤ c.flows.length)
      (fun H3 e3 => ⟨⟨none, none, none, rfl⟩, e02.trans e3, e3 _ _ (e2 _ _ hlo), ⟨[], MvT.nil (e3 _ _ hmo)⟩, Nat.zero_le _⟩) (fun i σ' H' p => sq_of (p.2.1 _ _ (NtC.hF hc))) ?_ ?_
    · rintro i x σ' H' hx ⟨⟨y4, y5, y6, rfl⟩, e3, hl, ⟨ts, hm⟩, hi⟩ H3 e4
      obtain ⟨g, hg, rfl⟩ := refs_get hx
      have hil := (List.getElem?_eq_some_iff.mp hg).1
      have e04 := e3.trans e4
      have hc3 := hc.mono e04
      refine s_forNL (xs := nats (enterL c s i)) (el_call (ea_cons (ev_var rfl) (ea_cons (ev_var rfl) (ea_cons (ev_var rfl) (ea_cons (ev_ixB (K := K) (ev_var rfl) (ev_var rfl) (ex_b e04 hs) (nats_get (fits_get ft hg))) ea_nil)))) (use_paths_to_enter hc3 hg (sq_of (e4 _ _ hl)) wf (ft.2 i g hg)))
        (fun p j σ' H' => (∃ y6, σ' = [some (.ref c.a), some (.ref sa), some (.ref lo), some (.ref mo), some (.int (i : Int)), some (.ref g.a), y6]) ∧ Ex H H' ∧ H' lo = some (.lst (nats (loadsOf c s))) ∧ H' p = some (.lst (nats (enterL c s i))) ∧ p ≠ mo ∧ ∃ ts, MvT H' mo ts (movesTo c s i ++ ((enterL c s i).take j).map fun p => (i, p + 1)))
        (fun p H4 np e5 hp => ⟨⟨_, rfl⟩, e04.trans e5, e5 _ _ (e4 _ _ hl), hp, (ne_of_none ((hm.ex e4).1) np).symm, ts, by
          show MvT H4 mo ts (movesTo c s i ++ [])
          rw [List.append_nil]
          exact hm.ex (e4.trans e5)⟩) (fun p j σ' H' _ q => sq_of q.2.2.2.1) ?_ ?_
      · rintro p j x σ' H' hx ⟨⟨y6, rfl⟩, e5, hl', hp, hne, ts', hm'⟩
        obtain ⟨q, hq, rfl⟩ := nats_at hx
        have lm := movesTo_len s wf i hi
        have l3 := enterL_len s wf hg
        have lt : ((enterL c s i).take j).length ≤ 3 := Nat.le_trans (List.length_take_le' _ _) l3
        have fl := wf.2.1
        have lts : ts'.length ≤ 100 := by
          rw [hm'.2.1, List.length_append, List.length_map]
          omega
        refine s_appU (xs := ts'.map V.ref) (ys := [.int (i : Int), .int (q : Int)]) hm'.1 (ev_var rfl) (eu_tup (ea_cons (ev_var rfl) (ea_cons (ev_var rfl) ea_nil)) (by show 2 ≤ 100000; decide)) (by rw [List.length_map]; omega) fun t H6 nt e6 ht => ?_
        have hlo0 : lo ≠ mo := fun z => by
          rw [z] at hlo
          rw [hlo] at nmo
          cases nmo
        refine ⟨⟨_, rfl⟩, Ex.mut (e5.trans e6) nmo0, by rw [upd_ne hlo0]; exact e6 _ _ hl', by rw [upd_ne hne]; exact e6 _ _ hp, hne, ts' ++ [t], ?_⟩
        have sn := hm'.snoc (m := (i, q + 1)) e6 (by rw [Nat.add_sub_cancel]; exact ht)
        rw [List.append_assoc] at sn
        rw [List.take_add_one, hq, List.map_append]
        exact sn
      · rintro p σ' H' ⟨⟨y6, rfl⟩, e5, hl', hp, hne, ts', hm'⟩
        refine ⟨⟨_, _, _, rfl⟩, e5, hl', ⟨ts', ?_⟩, hil⟩
        rw [nats_len, List.take_length] at hm'
        rw [movesTo_succ]
        exact hm'
    · rintro σ' H' ⟨⟨y4, y5, y6, rfl⟩, e3, hl, ⟨ts, hm⟩, hi⟩
      refine s_ret (ev_var rfl) fun H4 e4 => ?_
      refine k mo ts H4 nmo0 (e3.trans e4) ?_
      rw [List.length_map] at hm
      rw [moves_eq]
      exact hm.ex e4
/-! ### after_move -/
def sp_after_move (A : Adr) : Sp := fun vs H Q _ => ∃ (sa : Addr) (s : List Nat) (i p : Nat), vs = [.ref sa, .int i, .int p] ∧ H sa = some (.tup (nats s)) ∧ i < s.length ∧ s.length ≤ 1000 ∧ RetU (nats (s.set i (p + 1))) H Q
theorem use_after_move {H : Hp} {sa : Addr} {s : List Nat} {i p : Nat} (h : H sa = some (.tup (nats s))) (hi : i < s.length) (hz : s.length ≤ 1000) : SpU (sp_after_move A) [.ref sa, .int i, .int p] H (nats (s.set i (p + 1))) := fun _ e _ q _ => ⟨sa, s, i, p, rfl, e _ _ h, hi, hz, q⟩
theorem cut_to (xs : List V) (i : Nat) : cutV xs none (some (i : Int)) = xs.take i := by
  unfold cutV
  rw [HT.sIx_nat, HT.sIx_none]
  show List.take (min i xs.length - 0) (xs.drop 0) = _
  rw [List.drop_zero, Nat.sub_zero]
  rcases Nat.le_total i xs.length with h | h
  · rw [Nat.min_eq_left h]
  · rw [Nat.min_eq_right h, List.take_length, List.take_of_length_le h]
theorem cut_from (xs : List V) (i : Nat) (h : i ≤ xs.length) : cutV xs (some (i : Int)) none = xs.drop i := by
  unfold cutV
  rw [HT.sIx_nat, HT.sIx_none, Nat.min_eq_left h]
  exact List.take_of_length_le (by rw [List.length_drop]; exact Nat.le_refl _)
theorem ok_after_move (T : Txt K mg A) {f : Addr} {fd : FuncData} (F : Fun K "after_move" "after_move" s_after_move f fd) (g : mg "after_move" = some (.ref f)) (b : Binds K fd ["assignment", "flow", "path"] []) : Cal P w K mg base 1 "after_move" (sp_after_move A) := by
  refine ⟨f, fd, _, [], F.ok sc_after_move (fun vs H Q E h => ?_) (fun cdv A' outer s H vs Q E hr h => ?_), g, F.kp, b, .nil⟩
  · obtain ⟨sa, s, i, p, rfl, _⟩ := h
    rfl
  · obtain ⟨sa, s, i, p, rfl, hs, hi, hz, k⟩ := h
    refine ⟨_, (pss_one (ps_ret (pe_op op_catA (pe_op op_catA (pe_slice sl_tupA (pv 0) po_none (po_some (pv 1))) (pe_tup (pa_cons (pe_op op_add (pv 2) pe_int) pa_nil))) (pe_slice sl_tupA (pv 0) (po_some (pe_op op_add (pv 1) pe_int)) po_none)))), ?_⟩
    have u1 := eu_slA (K := K) (σ := [some (.ref sa), some (.int (i : Int)), some (.int (p : Int))]) (ev_var (i := 0) rfl) eo_none (eo_some (ev_var (i := 1) rfl)) (st_of hs) (by
      rw [HT.sIx_nat, nats_len]
      omega)
    have u2 := eu_tup (σ := [some (.ref sa), some (.int (i : Int)), some (.int (p : Int))]) (H := H) (ea_cons (ev_addN (ev_var (i := 2) rfl) (ev_nat 1)) ea_nil) (by show 1 ≤ 100000; decide)
    have u3 := eu_slA (K := K) (σ := [some (.ref sa), some (.int (i : Int)), some (.int (p : Int))]) (ev_var (i := 0) rfl) (eo_some (ev_addN (ev_var (i := 1) rfl) (ev_nat 1))) eo_none (st_of hs) (by
      rw [HT.sIx_nat, nats_len]
      omega)
    rw [cut_to] at u1
    rw [cut_from _ _ (by rw [nats_len]; exact hi)] at u3
    refine s_retU (eu_catA (eu_catA u1 u2 ?_) u3 ?_) fun q H2 hq e2 hl => ?_
    · rw [List.length_take, nats_len]
      show min i s.length + 1 ≤ _
      omega
    · rw [List.length_append, List.length_take, nats_len, List.length_drop, nats_len]
      show min i s.length + 1 + _ ≤ _
      omega
    · refine k q H2 hq e2 ?_
      rw [hl, List.set_eq_take_append_cons_drop, if_pos hi]
      unfold nats
      rw [List.map_append, List.map_cons, List.map_take, List.map_drop, List.append_assoc]
      rfl
/-! ### current_assignment -/
def sp_current_assignment (A : Adr) : Sp := fun vs H Q _ => ∃ (c : NtC), vs = [.ref c.a] ∧ Hold H (c.cells A) ∧ RetU (nats c.asg) H Q
theorem use_current_assignment {H : Hp} {c : NtC} (h : Hold H (c.cells A)) : SpU (sp_current_assignment A) [.ref c.a] H (nats c.asg) := fun _ e _ q _ => ⟨c, rfl, h.mono e, q⟩
theorem ok_current_assignment (T : Txt K mg A) {f : Addr} {fd : FuncData} (F : Fun K "current_assignment" "current_assignment" s_current_assignment f fd) (g : mg "current_assignment" = some (.ref f)) (b : Binds K fd ["network"] []) : Cal P w K mg base 1 "current_assignment" (sp_current_assignment A) := by
  refine ⟨f, fd, _, [], F.ok sc_current_assignment (fun vs H Q E h => ?_) (fun cdv A' outer s H vs Q E hr h => ?_), g, F.kp, b, .nil⟩
  · obtain ⟨c, rfl, _⟩ := h
    rfl
  · obtain ⟨c, rfl, hc, k⟩ := h
    refine ⟨_, (pss_one (ps_ret (pe_tupleOf (by rfl) T.b_tuple (pe_fld (pv 0) rfl)))), ?_⟩
    exact s_retU (eu_tupOf (K := K) (evN3 T hc (ev_var rfl)) (sq_of (NtC.hS hc))) k
end
end Fm

set_option Elab.async false
set_option linter.all false
set_option maxRecDepth 100000
set_option maxHeartbeats 4000000
/-! plans_from. -/
namespace Fm
open C8 (pe_c pe_mk pe_gc)
open PySem PySem.Spec PyProof.Rows L2 Evl FmS
/-- an entry of the search: its tuple, the assignment, where its plan lies, the plan -/
structure EnC where
  q : Addr
  s : List Nat
  la : Addr
  ts : List Addr
  p : List Mv
def EnC.kv (e : EnC) : List L2.Key × V := (keyL e.s, .ref e.la)
def EnC.ent (e : EnC) : Ent := (e.s, e.p)
abbrev ents (l : List EnC) : List Ent := l.map EnC.ent
abbrev kvsOf (l : List EnC) : List (List L2.Key × V) := l.map EnC.kv
theorem ents_keys (l : List EnC) : (ents l).map (·.1) = l.map (·.s) := by
  rw [List.map_map]
  rfl
theorem val_mem : ∀ (l : List EnC), (l.map (·.s)).Nodup → ∀ e ∈ l, valV (kvsOf l) (keyL e.s) = some (.ref e.la)
  | [], _, e, h => (List.not_mem_nil h).elim
  | a :: l, nd, e, h => by
    rw [List.map_cons, List.nodup_cons] at nd
    rcases List.mem_cons.mp h with rfl | h
    · exact valV_pos rfl
    · show valV (a.kv :: kvsOf l) (keyL e.s) = _
      rw [valV_neg (fun z => nd.1 (by
        have := keyL_inj z
        rw [this]
        exact List.mem_map_of_mem h))]
      exact val_mem l nd.2 e h
theorem val_none : ∀ (l : List EnC) (s : List Nat), s ∉ l.map (·.s) → valV (kvsOf l) (keyL s) = none
  | [], _, _ => rfl
  | a :: l, s, h => by
    rw [List.map_cons, List.mem_cons, not_or] at h
    show valV (a.kv :: kvsOf l) (keyL s) = _
    rw [valV_neg (fun z => h.1 (keyL_inj z).symm)]
    exact val_none l s h.2
theorem val_some {l : List EnC} {s : List Nat} (nd : (l.map (·.s)).Nodup) : (valV (kvsOf l) (keyL s)).isSome = decide (s ∈ l.map (·.s)) := by
  by_cases h : s ∈ l.map (·.s)
  · obtain ⟨e, he, rfl⟩ := List.mem_map.mp h
    rw [val_mem l nd e he, decide_eq_true h]
    rfl
  · rw [val_none l s h, decide_eq_false h]
    rfl
theorem put_new {l : List EnC} {e : EnC} (h : e.s ∉ l.map (·.s)) : putK (kvsOf l) (keyL e.s) (.ref e.la) = kvsOf (l ++ [e]) := by
  have hn := val_none l e.s h
  unfold putK
  rw [valV_any, hn]
  show kvsOf l ++ _ = _
  unfold kvsOf
  rw [List.map_append]
  rfl
/-- what is so of an entry, fo the list of what is found -/
def EntOk (H : Hp) (fo : Addr) (e : EnC) : Prop := H e.q = some (.tup (nats e.s)) ∧ MvT H e.la e.ts e.p ∧ e.la ≠ fo
theorem EntOk.ex {H H' : Hp} {fo : Addr} {e : EnC} (h : EntOk H fo e) (x : Ex H H') : EntOk H' fo e := ⟨x _ _ h.1, h.2.1.ex x, h.2.2⟩
theorem EntOk.upd {H : Hp} {fo d : Addr} {o : HO} {e : EnC} (h : EntOk H fo e) (h1 : e.la ≠ d) (h2 : ∀ xs, H d ≠ some (.tup xs)) : EntOk (L2.upd H d o) fo e := ⟨by
  rw [upd_ne (fun z => h2 _ (by rw [← z]; exact h.1))]
  exact h.1, h.2.1.upd h1 h2, h.2.2⟩
theorem fits_cand {c : NtC} {s : List Nat} (h : Cand c.spec s) : Fits c s := by
  refine ⟨by have := h.len; rw [show c.spec.flows.length = c.flows.length from List.length_map _] at this; exact this, fun i f hf => ?_⟩
  have hi : i < c.spec.flows.length := by
    rw [show c.spec.flows.length = c.flows.length from List.length_map _]
    exact (List.getElem?_eq_some_iff.mp hf).1
  have := h.fit i hi
  rw [flow_of hf, flen] at this
  exact this
/-- what plans_from answers -/
def RetP (w : Su203.Network) (s : List Nat) (H : Hp) (Q : VK) : Prop := ∀ (d : Addr) (l : List EnC) (H2 : Hp), H d = none → Ex H H2 → H2 d = some (.dT (kvsOf l)) → (∀ e ∈ l, H2 e.q = some (.tup (nats e.s)) ∧ MvT H2 e.la e.ts e.p) → Bfs w s (ents l) → l.length ≤ 243 → (∀ e ∈ l, e.p.length ≤ 243) → Q (.ref d) H2
def SpP (sp : Sp) (vs : List V) (H : Hp) (w : Su203.Network) (s : List Nat) : Prop := ∀ H1, Ex H H1 → ∀ Q : VK, RetP w s H1 Q → ∀ E : XK, sp vs H1 Q E
def EvP (te : TE) (σ : L2.St) (H : Hp) (w : Su203.Network) (s : List Nat) : Prop := ∀ H1, Ex H H1 → ∀ Q : VK, RetP w s H1 Q → te σ H1 Q
section
variable {K : PySem.W.Frag} {σ : L2.St} {H H' : Hp} {ta tb te tx td ty tv : TE} {D : Ends} {tu tz : TS} {tA : TA}
theorem RetP.back {w : Su203.Network} {s : List Nat} {Q : VK} (h : RetP w s H Q) (e : Ex H H') : RetP w s H' Q := fun d l H2 hd e2 => h d l H2 (fresh_back e hd) (e.trans e2)
theorem ep_call {sp : Sp} {vs : List V} {w : Su203.Network} {s : List Nat} (h : EvA tA σ H vs) (hs : SpP sp vs H w s) : EvP (tCall sp [] E0 tA) σ H w s := fun H1 e Q q => h H1 e _ fun H2 e2 => by
  show sp (vs ++ []) H2 Q E0
  rw [List.append_nil]
  exact hs H2 (e.trans e2) Q (q.back e2) E0
/-- plans[here] + [(flow, path)] -/
theorem em_cat {la : Addr} {ts : List Addr} {ms : List Mv} {m : Mv} (ha : Ev ta σ H (.ref la)) (hm : MvT H la ts ms) (hA : EvA tA σ H [.int (m.1 : Nat), .int ((m.2 - 1 : Nat) : Int)]) (hz : ms.length ≤ 1000) : EvM (tOp rCat ta (tLst (tCons (tTup tA) tNil))) σ H (ms ++ [m]) := fun H1 e Q q =>
  ha H1 e _ fun H2 e2 => hA H2 (e.trans e2) _ fun H3 e3 => ⟨by show 2 ≤ sizeLine; decide, fun t nt => ⟨by show 1 ≤ sizeLine; decide, fun b nb => by
    have e14 : Ex H1 (upd H3 t (.tup [.int (m.1 : Nat), .int ((m.2 - 1 : Nat) : Int)])) := (e2.trans e3).trans (Ex.new nt)
    have e15 := e14.trans (Ex.new (o := .lst [V.ref t]) nb)
    have hm5 := hm.ex (e.trans e15)
    refine ⟨la, b, ts.map V.ref, [.ref t], rfl, rfl, hm5.1, upd_same, sz_of (by rw [List.length_map, hm.2.1]; show _ + 1 ≤ _; omega), fun r nr => ?_⟩
    have e6 := e15.trans (Ex.new (o := .lst (ts.map V.ref ++ [V.ref t])) nr)
    have htt : upd (upd H3 t (.tup [.int (m.1 : Nat), .int ((m.2 - 1 : Nat) : Int)])) b (.lst [V.ref t]) t = some (.tup [.int (m.1 : Nat), .int ((m.2 - 1 : Nat) : Int)]) := Ex.new nb _ _ upd_same
    refine q r (ts ++ [t]) _ (fresh_back e15 nr) e6 ⟨by rw [upd_same, List.map_append]; rfl, by rw [List.length_append, List.length_append, hm.2.1]; rfl, fun i u m' a b' => ?_⟩
    by_cases hi : i < ts.length
    · rw [List.getElem?_append_left hi] at a
      rw [List.getElem?_append_left (by rw [← hm.2.1]; exact hi)] at b'
      exact Ex.new nr _ _ (hm5.2.2 i u m' a b')
    · rw [List.getElem?_append_right (Nat.not_lt.mp hi)] at a
      rw [List.getElem?_append_right (by rw [← hm.2.1]; exact Nat.not_lt.mp hi), ← hm.2.1] at b'
      have eu := List.mem_singleton.mp (List.mem_of_getElem? a)
      have em := List.mem_singleton.mp (List.mem_of_getElem? b')
      subst eu em
      exact Ex.new nr _ _ htt⟩⟩
theorem q_dputM {d b : Addr} {kvs : List (List L2.Key × V)} {k : List L2.Key} {ms : List Mv} (hv : EvM tv σ H ms) (ha : Ev td σ H (.ref d)) (hb : Ev ty σ H (.ref b)) (hd : H d = some (.dT kvs)) (hk : H b = some (.tup (k.map kV))) (hz : kvs.length < 100000)
    (q : ∀ p ts H1, H p = none → Ex H H1 → MvT H1 p ts ms → tz D σ (upd H1 d (.dT (putK kvs k (.ref p))))) : tSeq (sDPut td ty tv) tz D σ H :=
  hv H (Ex.refl H) _ fun p ts H1 np e1 hm => ha H1 e1 _ fun H2 e2 => hb H2 (e1.trans e2) _ fun H3 e3 => ⟨d, _, rfl, DPut.t (((e1.trans e2).trans e3) _ _ hd) (((e1.trans e2).trans e3) _ _ hk) (sz_lt hz), q p ts H3 np ((e1.trans e2).trans e3) (hm.ex (e2.trans e3))⟩
end
section
variable {P : Program} {w : World} {K : PySem.W.Frag} {mg : Str → Option Value} {base : Heap} {A : Adr}
def sp_plans_from (A : Adr) : Sp := fun vs H Q _ => ∃ (c : NtC) (sa : Addr) (s : List Nat), vs = [.ref c.a, .ref sa] ∧ Hold H (c.cells A) ∧ SpOk c.spec ∧ Wf c ∧ H sa = some (.tup (nats s)) ∧ Cand c.spec s ∧ RetP c.spec s H Q
theorem use_plans_from {H : Hp} {c : NtC} {sa : Addr} {s : List Nat} (h : Hold H (c.cells A)) (o : SpOk c.spec) (wf : Wf c) (hs : H sa = some (.tup (nats s))) (cd : Cand c.spec s) : SpP (sp_plans_from A) [.ref c.a, .ref sa] H c.spec s := fun _ e _ q _ => ⟨c, sa, s, rfl, h.mono e, o, wf, e _ _ hs, cd, q⟩
/-- between two nodes -/
def PlW (c : NtC) (H : Hp) (sa d fo : Addr) (s : List Nat) (m : Nat) (σ : L2.St) (H' : Hp) : Prop := ∃ (l : List EnC) (pos : Nat) (y5 y6 y7 y8 : Option V), m = c.spec.feasibleAssignments.length - pos ∧ σ = [some (.ref c.a), some (.ref sa), some (.ref d), some (.ref fo), some (.int ((pos : Nat) : Int)), y5, y6, y7, y8] ∧
  Ex H H' ∧ H' d = some (.dT (kvsOf l)) ∧ H' fo = some (.lst (l.map fun e => .ref e.q)) ∧ (∀ e ∈ l, EntOk H' fo e) ∧ Bi c.spec s (ents l) pos ∧ pos ≤ l.length
/-- within a node -/
def PlM (c : NtC) (H : Hp) (sa d fo : Addr) (s : List Nat) (pos : Nat) (e : EnC) (mo : Addr) (mts : List Addr) (j : Nat) (σ : L2.St) (H' : Hp) : Prop := ∃ (l : List EnC) (y6 y7 y8 : Option V), σ = [some (.ref c.a), some (.ref sa), some (.ref d), some (.ref fo), some (.int ((pos + 1 : Nat) : Int)), some (.ref e.q), y6, y7, y8] ∧
  Ex H H' ∧ H' d = some (.dT (kvsOf l)) ∧ H' fo = some (.lst (l.map fun e => .ref e.q)) ∧ (∀ e ∈ l, EntOk H' fo e) ∧ Bm c.spec s (ents l) pos e.ent ((c.spec.moves e.s).take j) ((c.spec.moves e.s).drop j) ∧ l[pos]? = some e ∧ MvT H' mo mts (c.spec.moves e.s) ∧ mo ≠ fo
theorem nats_key (s : List Nat) : (keyL s).map kV = nats s := key_nats s
theorem ok_plans_from (T : Txt K mg A) (k_allowed_moves : Cal P w K mg base 3 "allowed_moves" (sp_allowed_moves K A)) (k_after_move : Cal P w K mg base 1 "after_move" (sp_after_move A)) {f : Addr} {fd : FuncData} (F : Fun K "plans_from" "plans_from" s_plans_from f fd) (g : mg "plans_from" = some (.ref f)) (b : Binds K fd ["network", "start"] []) : Cal P w K mg base 4 "plans_from" (sp_plans_from A) := by
  refine ⟨f, fd, _, [], F.ok sc_plans_from (fun vs H Q E h => ?_) (fun cdv A' outer s H vs Q E hr h => ?_), g, F.kp, b, .nil⟩
  · obtain ⟨c, sa, s, rfl, _⟩ := h
    rfl
  · obtain ⟨c, sa, s, rfl, hc, o, wf, hs, cd, k⟩ := h
    refine ⟨_, (pss_cons (ps_set (i := 2) sc_plans_from.nd rfl (.inl rfl) (pe_disp1 (hu1 hr) (pv 1) (pe_lst pa_nil))) (pss_cons (ps_set (i := 3) sc_plans_from.nd rfl (.inl rfl) (pe_lst (pa_cons (pv 1) pa_nil))) (pss_cons (ps_set (i := 4) sc_plans_from.nd rfl (.inl rfl) pe_int) (pss_cons (ps_while PassesOwn.never (pt_cmpR op_lt (pv 4) (pe_callB call_len_seq (by rfl) T.b_len PySem.boot_len (pa_cons (pv 3) pa_nil)) (nomark _)) (pss_cons (ps_set (i := 5) sc_plans_from.nd rfl (.inl rfl) (pe_ix ix_list (pv 3) (pv 4) (fun _ _ => rfl))) (pss_cons (ps_aug (i := 4) sc_plans_from.nd rfl (.inl rfl) pe_int ip_add) (pss_one (ps_for PassesOwn.never rfl (pi_list (pe_c k_allowed_moves hr (by decide) rfl (pa_cons (pv 0) (pa_cons (pv 5) pa_nil)))) (pg_tup rfl (pgs_cons (pg_name (i := 6) sc_plans_from.nd rfl (.inl rfl)) (pgs_cons (pg_name (i := 7) sc_plans_from.nd rfl (.inl rfl)) pgs_nil))) (pss_cons (ps_set (i := 8) sc_plans_from.nd rfl (.inl rfl) (pe_c k_after_move hr (by decide) rfl (pa_cons (pv 5) (pa_cons (pv 6) (pa_cons (pv 7) pa_nil))))) (pss_one (ps_if (pt_cmp (pc_dnotin (hu1 hr) (pv 8) (pv 2)) (by rfl)) (pss_cons (ps_dput (hu1 hr) (pv 2) (pv 8) (pe_op op_cat (pe_dget (hu1 hr) (pv 2) (pv 5) (fun _ _ => rfl)) (pe_lst (pa_cons (pe_tup (pa_cons (pv 6) (pa_cons (pv 7) pa_nil))) pa_nil))) rfl) (pss_one (ps_expr (pe_bm PySem.F.plainAttrs_list PySem.F.slot_list_append PySem.F.type_list_append mt_append (pv 3) (pa_cons (pv 8) pa_nil))))) pss_nil)))))))) (pss_one (ps_ret (pv 2))))))), ?_⟩
    have few := few_feasible o
    -- plans = {start: []}
    refine fun d nd => ⟨_, rfl, Nat.zero_le _, fun la nla => ⟨sa, keyL s, rfl, ?_, ?_, ?_⟩⟩
    · rw [nats_key]
      exact Ex.new nla _ _ (Ex.new nd _ _ hs)
    · exact Ex.new nla _ _ upd_same
    have lad : la ≠ d := fun z => by
      rw [z, upd_same] at nla
      cases nla
    have nla0 : H la = none := by
      rw [upd_ne lad] at nla
      exact nla
    have e0 : Ex H (upd (upd (upd H d (.dT [])) la (.lst [])) d (.dT [(keyL s, .ref la)])) := Ex.mut ((Ex.new nd).trans (Ex.new nla)) nd
    -- found = [start]
    refine q_asgL (el_lst (ea_cons (ev_var rfl) ea_nil) (by show 1 ≤ 100000; decide)) fun fo H1 nfo e1 hfo => ?_
    refine q_asg (ev_nat 0) fun H2 e2 => ?_
    have e02 := (e0.trans e1).trans e2
    have hd2 : H2 d = some (.dT [(keyL s, .ref la)]) := e2 _ _ (e1 _ _ upd_same)
    have hla2 : H2 la = some (.lst []) := e2 _ _ (e1 _ _ (by rw [upd_ne lad]; exact upd_same))
    have hfo2 : H2 fo = some (.lst [.ref sa]) := e2 _ _ hfo
    have fod : fo ≠ d := fun z => by
      rw [z, hd2] at hfo2
      cases hfo2
    have lafo : la ≠ fo := fun z => by
      rw [← z, upd_ne lad, upd_same] at nfo
      cases nfo
    have nfo0 : H fo = none := fresh_back e0 nfo
    refine q_while (PlW c H sa d fo s) (c.spec.feasibleAssignments.length - 0) ⟨[⟨sa, s, la, [], []⟩], 0, none, none, none, none, rfl, rfl, e02, hd2, hfo2, fun e he => ?_, bi_start c.spec s, Nat.zero_le _⟩ ?_
    · rw [List.mem_singleton.mp he]
      exact ⟨e02 _ _ hs, MvT.nil hla2, lafo⟩
    rintro m σ' H' ⟨l, pos, y5, y6, y7, y8, rfl, rfl, eh, hd, hf, hen, bi, hpos⟩
    refine ⟨decide (pos < l.length), et_test (ev_ltN (ev_var rfl) (ev_lenN' (K := K) (g := fun e : EnC => V.ref e.q) (ev_var rfl) (sq_of hf))), fun hb H3 e3 => ?_, fun hb H3 e3 => ?_⟩
    · have hlt := of_decide_eq_true hb
      have fewl := bi.few o cd
      rw [List.length_map] at fewl
      refine ⟨fun σ2 H2 => ∃ m', m' < c.spec.feasibleAssignments.length - pos ∧ PlW c H sa d fo s m' σ2 H2, fun σ2 H2 h => h, ?_⟩
      have ge : l[pos]? = some l[pos] := List.getElem?_eq_getElem hlt
      generalize l[pos] = e at ge
      have hem := List.mem_of_getElem? ge
      have hee : (ents l)[pos]? = some e.ent := map_get ge
      obtain ⟨ve, re⟩ := bi.valid e.ent (List.mem_map_of_mem hem)
      have cde : Cand c.spec e.s := by
        have := valid_cand cd ve
        rw [re] at this
        exact this
      have hen3 : ∀ e ∈ l, EntOk H3 fo e := fun e he => (hen e he).ex e3
      -- here = found[position]; position += 1
      refine q_asg (ev_ixR (K := K) (g := EnC.q) (ev_var rfl) (ev_var rfl) (sq_of (e3 _ _ hf)) ge) fun H4 e4 => ?_
      refine q_aug (f := fun i j => i + j) (a := ((pos : Nat) : Int)) (b := 1) rfl ev_int fun H5 e5 => ?_
      rw [show ((pos : Nat) : Int) + 1 = ((pos + 1 : Nat) : Int) from rfl]
      have e35 := e4.trans e5
      have eh5 := (eh.trans e3).trans e35
      have hq5 : H5 e.q = some (.tup (nats e.s)) := ((hen3 e hem).ex e35).1
      -- for flow, path in allowed_moves(network, here)
      refine s_forM (em_call (ea_cons (ev_var rfl) (ea_cons (ev_var rfl) ea_nil)) (use_allowed_moves (hc.mono eh5) (sb_t hq5) wf (fits_cand cde))) (PlM c H sa d fo s pos e)
        (fun mo mts H6 nmo e6 hm => ⟨l, _, _, _, rfl, eh5.trans e6, e6 _ _ (e35 _ _ (e3 _ _ hd)), e6 _ _ (e35 _ _ (e3 _ _ hf)), fun e he => (hen3 e he).ex (e35.trans e6), bi.enter hee, ge, hm, (ne_of_none (e35 _ _ (e3 _ _ hf)) nmo).symm⟩)
        (fun mo mts j σ' H' q => by
          obtain ⟨l, y6, y7, y8, _, _, _, _, _, _, _, hm, _⟩ := q
          exact hm) ?_ ?_
      · rintro mo mts j m σ' H' hj ⟨l', y6, y7, y8, rfl, eh', hd', hf', hen', bm, ge', hm', mofo⟩
        have hmv : m ∈ c.spec.moves e.s := List.mem_of_getElem? hj
        obtain ⟨hfl, hcan⟩ := mem_moves.mp hmv
        obtain ⟨_, hp0, _, _, _⟩ := can_parts.mp hcan
        have hsl : m.1 < e.s.length := by rw [cde.len]; exact hfl
        have hsz : e.s.length ≤ 1000 := by
          rw [cde.len]
          have := o.fl
          omega
        have hem' := List.mem_of_getElem? ge'
        have hq' : H' e.q = some (.tup (nats e.s)) := (hen' e hem').1
        have fewm := bm.few o cd
        rw [List.length_map] at fewm
        have nd' : (l'.map (·.s)).Nodup := by
          rw [← ents_keys]
          exact bm.nodup
        have hdr : (c.spec.moves e.s).drop j = m :: (c.spec.moves e.s).drop (j + 1) := by
          obtain ⟨hjl, ej⟩ := List.getElem?_eq_some_iff.mp hj
          rw [← ej]
          exact List.drop_eq_getElem_cons hjl
        rw [hdr] at bm
        have htk : (c.spec.moves e.s).take (j + 1) = (c.spec.moves e.s).take j ++ [m] := by
          rw [List.take_add_one, hj]
          rfl
        -- there = after_move(here, flow, path)
        refine q_asgU (eu_call (ea_cons (ev_var rfl) (ea_cons (ev_var rfl) (ea_cons (ev_var rfl) ea_nil))) (use_after_move hq' hsl hsz)) fun u H6 nu e6 hu => ?_
        rw [show m.2 - 1 + 1 = m.2 by omega, show e.s.set m.1 m.2 = Su203.applyMove e.s m from rfl] at hu
        have hd6 := e6 _ _ hd'
        have hf6 := e6 _ _ hf'
        have hen6 : ∀ e ∈ l', EntOk H6 fo e := fun e he => (hen' e he).ex e6
        refine s_when (b := !decide (Su203.applyMove e.s m ∈ l'.map (·.s))) (et_is (et_dnotin (k := keyL (Su203.applyMove e.s m)) (ev_var rfl) (ev_var rfl) hd6 (by rw [nats_key]; exact hu)) (by rw [val_some nd'])) (fun hb H7 e7 => ?_) (fun hb H7 e7 => ?_)
        · have hno : Su203.applyMove e.s m ∉ l'.map (·.s) := by simpa using hb
          have hd7 := e7 _ _ hd6
          have hf7 := e7 _ _ hf6
          have hen7 : ∀ e ∈ l', EntOk H7 fo e := fun e he => (hen6 e he).ex e7
          have hu7 := e7 _ _ hu
          have lenp : e.p.length ≤ 243 := by
            have h1 := bm.len pos e.ent (map_get ge')
            have h2 := (List.getElem?_eq_some_iff.mp ge').1
            have h1 : e.p.length ≤ pos := h1
            omega
          -- plans[there] = plans[here] + [(flow, path)]
          refine q_dputM (k := keyL (Su203.applyMove e.s m)) (em_cat (ev_dget (k := keyL e.s) (ev_var rfl) (ev_var rfl) hd7 (by rw [nats_key]; exact (hen7 e hem').1) (val_mem l' nd' e hem')) (hen7 e hem').2.1 (ea_cons (ev_var rfl) (ea_cons (ev_var rfl) ea_nil)) (by omega)) (ev_var rfl) (ev_var rfl) hd7 (by rw [nats_key]; exact hu7) (by rw [List.length_map]; omega) fun r rts H8 nr e8 hr8 => ?_
          let e' : EnC := ⟨u, Su203.applyMove e.s m, r, rts, e.p ++ [m]⟩
          have pn : putK (kvsOf l') (keyL (Su203.applyMove e.s m)) (.ref r) = kvsOf (l' ++ [e']) := put_new (e := e') hno
          rw [pn]
          have rd : r ≠ d := (ne_of_none hd7 nr).symm
          have rfo : r ≠ fo := (ne_of_none hf7 nr).symm
          have hd8 := e8 _ _ hd7
          have nodt : ∀ xs, H8 d ≠ some (.tup xs) := fun xs z => by
            rw [hd8] at z
            cases z
          have hf8 : upd H8 d (.dT (kvsOf (l' ++ [e']))) fo = some (.lst (l'.map fun e => .ref e.q)) := by
            rw [upd_ne fod]
            exact e8 _ _ hf7
          have hen8 : ∀ x ∈ l', EntOk (upd H8 d (.dT (kvsOf (l' ++ [e'])))) fo x := fun x hx => ((hen7 x hx).ex e8).upd (fun z => by
            have := ((hen7 x hx).ex e8).2.1.1
            rw [z, hd8] at this
            cases this) nodt
          have hu8 : upd H8 d (.dT (kvsOf (l' ++ [e']))) u = some (.tup (nats (Su203.applyMove e.s m))) := by
            rw [upd_ne (fun z => nodt _ (by rw [← z]; exact e8 _ _ hu7))]
            exact e8 _ _ hu7
          have hr9 : MvT (upd H8 d (.dT (kvsOf (l' ++ [e'])))) r rts (e.p ++ [m]) := hr8.upd rd nodt
          have hm9 : MvT (upd H8 d (.dT (kvsOf (l' ++ [e'])))) mo mts (c.spec.moves e.s) := (hm'.ex ((e6.trans e7).trans e8)).upd (fun z => by
            have := (hm'.ex ((e6.trans e7).trans e8)).1
            rw [z, hd8] at this
            cases this) nodt
          have eh9 : Ex H (upd H8 d (.dT (kvsOf (l' ++ [e'])))) := Ex.mut (((eh'.trans e6).trans e7).trans e8) nd
          -- found.append(there)
          refine s_app (xs := l'.map fun e => .ref e.q) hf8 (ev_var rfl) (ev_var rfl) (by rw [List.length_map]; omega) fun H10 e10 => ?_
          have hd10 : H10 d = some (.dT (kvsOf (l' ++ [e']))) := e10 _ _ upd_same
          have hf10 := e10 _ _ hf8
          have noft : ∀ xs, H10 fo ≠ some (.tup xs) := fun xs z => by
            rw [hf10] at z
            cases z
          refine ⟨l' ++ [e'], _, _, _, rfl, Ex.mut (eh9.trans e10) nfo0, by rw [upd_ne fod.symm]; exact hd10, ?_, fun x hx => ?_, ?_, ?_, (hm9.ex e10).upd mofo noft, mofo⟩
          · rw [upd_same, List.map_append]
            rfl
          · rcases List.mem_append.mp hx with hx | hx
            · exact ((hen8 x hx).ex e10).upd (hen8 x hx).2.2 noft
            · rw [List.mem_singleton.mp hx]
              exact EntOk.upd (e := e') ⟨e10 _ _ hu8, hr9.ex e10, rfo⟩ rfo noft
          · have ba := bm.add (by rw [ents_keys]; exact hno)
            rw [htk]
            show Bm c.spec s (ents (l' ++ [e'])) pos e.ent _ _
            unfold ents
            rw [List.map_append]
            exact ba
          · rw [List.getElem?_append_left (List.getElem?_eq_some_iff.mp ge').1]
            exact ge'
        · have hyes : Su203.applyMove e.s m ∈ l'.map (·.s) := by simpa using hb
          refine ⟨l', _, _, _, rfl, (eh'.trans e6).trans e7, e7 _ _ hd6, e7 _ _ hf6, fun x hx => (hen6 x hx).ex e7, ?_, ge', hm'.ex (e6.trans e7), mofo⟩
          rw [htk]
          exact bm.skip (by rw [ents_keys]; exact hyes)
      · rintro mo mts σ' H' ⟨l', y6, y7, y8, rfl, eh', hd', hf', hen', bm, ge', hm', mofo⟩
        rw [List.take_length, List.drop_length] at bm
        refine ⟨c.spec.feasibleAssignments.length - (pos + 1), by omega, l', pos + 1, _, _, _, _, rfl, rfl, eh', hd', hf', hen', bm.leave, ?_⟩
        exact (List.getElem?_eq_some_iff.mp ge').1
    · have hge := of_decide_eq_false hb
      have ep : pos = l.length := by omega
      refine s_ret (ev_var rfl) fun H4 e4 => ?_
      have e34 := e3.trans e4
      have fewl := bi.few o cd
      rw [List.length_map] at fewl
      refine k d l H4 nd (eh.trans e34) (e34 _ _ hd) (fun e he => ⟨e34 _ _ (hen e he).1, (hen e he).2.1.ex e34⟩) ?_ (by omega) fun e he => ?_
      · subst ep
        have : (ents l).length = l.length := List.length_map _
        rw [← this] at bi
        exact bi.done
      · obtain ⟨i, hi⟩ := List.mem_iff_getElem?.mp he
        have h1 : e.p.length ≤ i := bi.len i e.ent (map_get hi)
        have h2 := (List.getElem?_eq_some_iff.mp hi).1
        omega
end
end Fm

set_option Elab.async false
set_option linter.all false
set_option maxRecDepth 100000
set_option maxHeartbeats 4000000
/-! choices_of, candidate_assignments, count_components. -/
namespace Fm
open C8 (pe_c pe_mk pe_gc)
open PySem PySem.Spec PyProof.Rows L2 Evl FmS
/-! ### walks over what plans_from answers -/
section
variable {K : PySem.W.Frag} {σ : L2.St} {H H' : Hp} {ta tb te tx : TE} {D : Ends} {tu tz : TS}
theorem kv_at {l : List EnC} {i : Nat} {k : List L2.Key} {v : V} (h : (kvsOf l)[i]? = some (k, v)) : ∃ e, l[i]? = some e ∧ k = keyL e.s ∧ v = .ref e.la := by
  unfold kvsOf at h
  rw [List.getElem?_map] at h
  cases q : l[i]? with
  | none =>
    rw [q] at h
    cases h
  | some e =>
    rw [q] at h
    have h := Option.some.inj h
    exact ⟨e, rfl, (congrArg Prod.fst h).symm, (congrArg Prod.snd h).symm⟩
theorem s_forKT {w : Su203.Network} {s : List Nat} {i1 : Nat} (h : EvP te σ H w s) (Pv : Addr → Obj → List EnC → Nat → L2.St → Hp → Prop)
    (h0 : ∀ d o l H1, H d = none → Ex H H1 → H1 d = some (.frz o (.dT (kvsOf l))) → Bfs w s (ents l) → l.length ≤ 243 → Pv d o l 0 σ H1) (hl : ∀ d o l i σ' H', Pv d o l i σ' H' → H' d = some (.frz o (.dT (kvsOf l))))
    (hs : ∀ d o l (i : Nat) e q σ' H', l[i]? = some e → H' q = some (.tup (nats e.s)) → Pv d o l i σ' H' → tu { D with nx := Pv d o l (i + 1), ct := Pv d o l (i + 1), bk := D.nx } (σ'.set i1 (some (.ref q))) H')
    (hd : ∀ d o l σ' H', Pv d o l l.length σ' H' → D.nx σ' H') : tFor (iKeysT te) (gName i1) tu D σ H :=
  h H (Ex.refl H) _ fun d l H2 nd e hd2 hen bf few _ => ⟨d, kvsOf l, rfl, hd2, fun o => ⟨fun i m σ H => m = l.length - i ∧ i ≤ l.length ∧ Pv d o l i σ H, ⟨l.length, rfl, Nat.zero_le _, h0 d o l _ nd (Ex.mut e nd) upd_same bf few⟩, by
    rintro i m σ' H' ⟨rfl, hi, p⟩
    have hf := hl d o l i σ' H' p
    by_cases lt : i < l.length
    · refine .inr ⟨⟨hf, by rw [List.length_map]; exact lt⟩, Pv d o l (i + 1), fun σ2 H2 p' => ⟨l.length - (i + 1), by omega, rfl, lt, p'⟩, fun x H2 hx => ?_⟩
      obtain ⟨rfl, k, v, q, hkv, rfl, hq⟩ := hx
      obtain ⟨e, he, rfl, rfl⟩ := kv_at hkv
      rw [nats_key] at hq
      exact hs d o l i e q σ' H2 he hq p
    · have ei : i = l.length := by omega
      subst ei
      exact .inl ⟨⟨hf, by rw [List.length_map]; exact Nat.le_refl _⟩, hd d o l σ' H' p⟩⟩⟩
theorem q_forIT {w : Su203.Network} {s : List Nat} {i1 i2 : Nat} (h : EvP te σ H w s) (Pv : Addr → Obj → List EnC → Nat → L2.St → Hp → Prop)
    (h0 : ∀ d o l H1, H d = none → Ex H H1 → H1 d = some (.frz o (.dT (kvsOf l))) → (∀ e ∈ l, MvT H1 e.la e.ts e.p) → Bfs w s (ents l) → l.length ≤ 243 → (∀ e ∈ l, e.p.length ≤ 243) → Pv d o l 0 σ H1) (hl : ∀ d o l i σ' H', Pv d o l i σ' H' → H' d = some (.frz o (.dT (kvsOf l))))
    (hs : ∀ d o l (i : Nat) e q σ' H', l[i]? = some e → Pv d o l i σ' H' → ∀ H1, Ex H' H1 → H1 q = some (.tup (nats e.s)) → tu { D with nx := Pv d o l (i + 1), ct := Pv d o l (i + 1), bk := tz D } ((σ'.set i1 (some (.ref q))).set i2 (some (.ref e.la))) H1)
    (hd : ∀ d o l σ' H', Pv d o l l.length σ' H' → tz D σ' H') : tSeq (tFor (iItemsT te) (zipG K i1 i2) tu) tz D σ H :=
  h H (Ex.refl H) _ fun d l H2 nd e hd2 hen bf few fp => ⟨d, kvsOf l, rfl, hd2, fun o => ⟨fun i m σ H => m = l.length - i ∧ i ≤ l.length ∧ Pv d o l i σ H, ⟨l.length, rfl, Nat.zero_le _, h0 d o l _ nd (Ex.mut e nd) upd_same (fun x hx => (hen x hx).2.upd (fun z => by
      have := (hen x hx).2.1
      rw [z, hd2] at this
      cases this) (fun xs z => by
      rw [hd2] at z
      cases z)) bf few fp⟩, by
    rintro i m σ' H' ⟨rfl, hi, p⟩
    have hf := hl d o l i σ' H' p
    by_cases lt : i < l.length
    · refine .inr ⟨⟨hf, by rw [List.length_map]; exact lt⟩, Pv d o l (i + 1), fun σ2 H2 p' => ⟨l.length - (i + 1), by omega, rfl, lt, p'⟩, fun x H2 hx => ?_⟩
      obtain ⟨T, k, v, q, hkv, rfl, nT, rfl, hq⟩ := hx
      obtain ⟨e, he, rfl, rfl⟩ := kv_at hkv
      rw [nats_key] at hq
      exact zipG_go upd_same (hs d o l i e q σ' H' he p _ (Ex.new nT) (Ex.new nT _ _ hq))
    · have ei : i = l.length := by omega
      subst ei
      exact .inl ⟨⟨hf, by rw [List.length_map]⟩, hd d o l σ' H' p⟩⟩⟩
/-- list(range(1, n + 1)) -/
theorem el_rg {n : Nat} (ha : Ev ta σ H (.int 1)) (hb : Ev tb σ H (.int ((n + 1 : Nat) : Int))) (hz : n ≤ 1000) : EvL (tLstRg (tRg2 ta tb)) σ H (nats ((List.range n).map fun p => p + 1)) := fun H1 e Q q =>
  ha H1 e _ fun H2 e2 => hb H2 (e.trans e2) _ fun H3 e3 => ⟨1, ((n + 1 : Nat) : Int), rfl, rfl, RgOk.of_le (by decide) (by omega) (by decide) (by omega), fun p hp => q p _ (fresh_back (e2.trans e3) hp) ((e2.trans e3).trans (Ex.new hp)) (by
    rw [upd_same]
    refine congrArg (fun z => some (HO.lst z)) ?_
    unfold rgV nats
    rw [show (((n + 1 : Nat) : Int) - 1).toNat = n by omega, List.map_map]
    refine List.map_congr_left fun i _ => ?_
    show V.int (1 + (i : Int)) = V.int (((i + 1 : Nat) : Int))
    rw [Int.add_comm]
    rfl)⟩
end
/-! ### a list of assignments: tuples -/
def TuL (H : Hp) (p : Addr) (l : List (Addr × List Nat)) : Prop := H p = some (.lst (l.map fun e => .ref e.1)) ∧ ∀ e ∈ l, H e.1 = some (.tup (nats e.2))
theorem TuL.ex {H H' : Hp} {p : Addr} {l : List (Addr × List Nat)} (h : TuL H p l) (e : Ex H H') : TuL H' p l := ⟨e _ _ h.1, fun x hx => e _ _ (h.2 x hx)⟩
theorem TuL.upd {H : Hp} {p d : Addr} {o : HO} {l : List (Addr × List Nat)} (h : TuL H p l) (h1 : p ≠ d) (h2 : ∀ xs, H d ≠ some (.tup xs)) : TuL (L2.upd H d o) p l := ⟨by rw [upd_ne h1]; exact h.1, fun x hx => by
  rw [upd_ne (fun z => h2 _ (by rw [← z]; exact h.2 x hx))]
  exact h.2 x hx⟩
theorem TuL.snoc {H H' : Hp} {p t : Addr} {l : List (Addr × List Nat)} {s : List Nat} (h : TuL H p l) (e : Ex H H') (ht : H' t = some (.tup (nats s))) : TuL (L2.upd H' p (.lst ((l.map fun e => V.ref e.1) ++ [.ref t]))) p (l ++ [(t, s)]) := by
  have ne : ∀ u xs, H' u = some (.tup xs) → u ≠ p := fun u xs hu z => by
    rw [z, e _ _ h.1] at hu
    cases hu
  refine ⟨by rw [upd_same, List.map_append]; rfl, fun x hx => ?_⟩
  rcases List.mem_append.mp hx with hx | hx
  · have q := e _ _ (h.2 x hx)
    rw [upd_ne (ne _ _ q)]
    exact q
  · rw [List.mem_singleton.mp hx, upd_ne (ne _ _ ht)]
    exact ht
def optsF (f : FlC) (ch : Nat) : List Nat := if ch = 0 then [0] else (List.range f.paths.length).map fun p => p + 1
theorem opts_spec {c : NtC} {i : Nat} {f : FlC} (hf : c.flows[i]? = some f) (s : List Nat) : opts c.spec s i = optsF f (s.getD i 0) := by
  unfold opts optsF
  rw [flow_of hf, flen]
theorem optsF_len {f : FlC} (h : f.paths.length ≤ 3) (ch : Nat) : (optsF f ch).length ≤ 3 := by
  unfold optsF
  split
  · show 1 ≤ 3
    decide
  · rw [List.length_map, List.length_range]
    exact h
theorem enum_fits {c : NtC} {s r : List Nat} (h : r ∈ Su203.enumerateAssignments c.spec c.spec.flowIndices s) (ft : Fits c s) : Fits c r := by
  obtain ⟨h1, h2⟩ := mem_enum.mp h
  have hl : c.spec.flowIndices.length = c.flows.length := by
    unfold Su203.Network.flowIndices
    rw [List.length_range]
    exact List.length_map _
  refine ⟨by rw [h1, hl], fun i f hf => ?_⟩
  have hi := (List.getElem?_eq_some_iff.mp hf).1
  have hg : c.spec.flowIndices[i]? = some i := by
    unfold Su203.Network.flowIndices
    exact List.getElem?_range (by rw [show c.spec.flows.length = c.flows.length from List.length_map _]; exact hi)
  obtain ⟨q1, q2⟩ := mem_opts.mp (h2 i i hg)
  rw [flow_of hf, flen] at q2
  by_cases e : s.getD i 0 = 0
  · rw [q1.mpr e]
    exact Nat.zero_le _
  · exact q2 e
theorem wf_of {c : NtC} (o : SpOk c.spec) : Wf c := by
  refine ⟨by have := o.lk; rw [show c.spec.links.length = c.links.length from List.length_map _] at this; exact this, by have := o.fl; rw [show c.spec.flows.length = c.flows.length from List.length_map _] at this; exact this, fun f hf => ?_⟩
  have h := o.fs f.spec (List.mem_map_of_mem hf)
  refine ⟨?_, fun p hp => ?_, fun p hp k hk => ?_, fun p hp => ?_⟩
  · have := h.few
    rw [show f.spec.pathLinks.length = f.paths.length from List.length_map _] at this
    exact this
  · exact (h.nd p.links (List.mem_map_of_mem hp)).1
  · have := (h.nd p.links (List.mem_map_of_mem hp)).2.2 k hk
    rw [show c.spec.links.length = c.links.length from List.length_map _] at this
    exact this
  · exact ⟨h.sh p.nodes (List.mem_map_of_mem hp), (h.nd p.links (List.mem_map_of_mem hp)).2.1⟩
theorem fits_of {c : NtC} (o : SpOk c.spec) : Fits c c.asg := fits_cand (cand_asg o)
section
variable {P : Program} {w : World} {K : PySem.W.Frag} {mg : Str → Option Value} {base : Heap} {A : Adr}
/-! ### choices_of -/
def sp_choices_of (A : Adr) : Sp := fun vs H Q _ => ∃ (f : FlC) (ch : Nat), vs = [.ref f.a, .int ch] ∧ Hold H (f.cells A) ∧ f.paths.length ≤ 3 ∧ RetL (nats (optsF f ch)) H Q
theorem use_choices_of {H : Hp} {f : FlC} {ch : Nat} (h : Hold H (f.cells A)) (hz : f.paths.length ≤ 3) : SpL (sp_choices_of A) [.ref f.a, .int ch] H (nats (optsF f ch)) := fun _ e _ q _ => ⟨f, ch, rfl, h.mono e, hz, q⟩
theorem ok_choices_of (T : Txt K mg A) {f : Addr} {fd : FuncData} (F : Fun K "choices_of" "choices_of" s_choices_of f fd) (g : mg "choices_of" = some (.ref f)) (b : Binds K fd ["flow", "choice"] []) : Cal P w K mg base 1 "choices_of" (sp_choices_of A) := by
  refine ⟨f, fd, _, [], F.ok sc_choices_of (fun vs H Q E h => ?_) (fun cdv A' outer s H vs Q E hr h => ?_), g, F.kp, b, .nil⟩
  · obtain ⟨f, ch, rfl, _⟩ := h
    rfl
  · obtain ⟨f, ch, rfl, hf, hz, k⟩ := h
    refine ⟨_, (pss_cons (ps_if (pt_cmpR op_eq (pv 1) pe_int (nomark _)) (pss_one (ps_ret (pe_lst (pa_cons pe_int pa_nil)))) pss_nil) (pss_one (ps_ret (pe_listRg rfl (by rfl) T.b_list (prg_2 (by rfl) T.b_range pe_int (pe_op op_add (pe_callB call_len_seq (by rfl) T.b_len PySem.boot_len (pa_cons (pe_fld (pv 0) rfl) pa_nil)) pe_int)))))), ?_⟩
    refine q_when (b := decide (ch = 0)) (et_test (ev_eqN (ev_var rfl) (ev_nat 0))) (fun hb H1 e1 => ?_) (fun hb H1 e1 => ?_)
    · refine s_retL (el_lst (ea_cons (ev_nat 0) ea_nil) (by show 1 ≤ 100000; decide)) fun p H2 hp e2 hl => k p H2 (fresh_back e1 hp) (e1.trans e2) ?_
      unfold optsF
      rw [if_pos (of_decide_eq_true hb)]
      exact hl
    · refine s_retL (el_rg (n := f.paths.length) ev_int (ev_addN (ev_lenN' (K := K) (evF3 T (hf.mono e1) (ev_var rfl)) (sq_of (FlC.hP (hf.mono e1)))) (ev_nat 1)) (by omega)) fun p H2 hp e2 hl => k p H2 (fresh_back e1 hp) (e1.trans e2) ?_
      unfold optsF
      rw [if_neg (of_decide_eq_false hb)]
      exact hl
/-! ### candidate_assignments -/
def RetC (w : Su203.Network) (H : Hp) (Q : VK) : Prop := ∀ p l H2, H p = none → Ex H H2 → TuL H2 p l → l.map (·.2) = w.feasibleAssignments → Q (.ref p) H2
def SpC (sp : Sp) (vs : List V) (H : Hp) (w : Su203.Network) : Prop := ∀ H1, Ex H H1 → ∀ Q : VK, RetC w H1 Q → ∀ E : XK, sp vs H1 Q E
theorem RetC.back {w : Su203.Network} {H H' : Hp} {Q : VK} (h : RetC w H Q) (e : Ex H H') : RetC w H' Q := fun p l H2 hp e2 => h p l H2 (fresh_back e hp) (e.trans e2)
def sp_candidate_assignments (A : Adr) : Sp := fun vs H Q _ => ∃ (c : NtC), vs = [.ref c.a] ∧ Hold H (c.cells A) ∧ SpOk c.spec ∧ RetC c.spec H Q
theorem use_candidate_assignments {H : Hp} {c : NtC} (h : Hold H (c.cells A)) (o : SpOk c.spec) : SpC (sp_candidate_assignments A) [.ref c.a] H c.spec := fun _ e _ q _ => ⟨c, rfl, h.mono e, o, q⟩
theorem given_filterA {α : Type} (l : List α) (q : α → Bool) (g : α → V) (dflt : α) : given l.length (fun i => q (l.getD i dflt)) (fun i => g (l.getD i dflt)) = (l.filter q).map g := by
  unfold given
  have e : l = (List.range l.length).map fun i => l.getD i dflt := by
    refine List.ext_getElem? fun j => ?_
    rw [List.getElem?_map]
    by_cases hj : j < l.length
    · rw [List.getElem?_range hj, List.getElem?_eq_getElem hj]
      show some _ = some (l.getD j dflt)
      rw [List.getD_eq_getElem?_getD, List.getElem?_eq_getElem hj]
      rfl
    · rw [List.getElem?_eq_none (by omega), List.getElem?_eq_none (by rw [List.length_range]; omega)]
      rfl
  conv => rhs; rw [e]
  rw [List.filter_map, List.map_map]
  rfl
theorem flat_take {α β : Type} (g : α → List β) {l : List α} {j : Nat} {x : α} (h : l[j]? = some x) : (l.take (j + 1)).flatMap g = (l.take j).flatMap g ++ g x := by
  rw [List.take_add_one, h, List.flatMap_append]
  show _ ++ (g x ++ []) = _
  rw [List.append_nil]
theorem ok_candidate_assignments (T : Txt K mg A) (k_is_feasible : Cal P w K mg base 2 "is_feasible" (sp_is_feasible K A)) (k_choices_of : Cal P w K mg base 1 "choices_of" (sp_choices_of A)) {f : Addr} {fd : FuncData} (F : Fun K "candidate_assignments" "candidate_assignments" s_candidate_assignments f fd) (g : mg "candidate_assignments" = some (.ref f)) (b : Binds K fd ["network"] []) : Cal P w K mg base 3 "candidate_assignments" (sp_candidate_assignments A) := by
  refine ⟨f, fd, _, [], F.ok sc_candidate_assignments (fun vs H Q E h => ?_) (fun cdv A' outer s H vs Q E hr h => ?_), g, F.kp, b, .nil⟩
  · obtain ⟨c, rfl, _⟩ := h
    rfl
  · obtain ⟨c, rfl, hc, o, k⟩ := h
    refine ⟨_, (pss_cons (ps_set (i := 1) sc_candidate_assignments.nd rfl (.inl rfl) (pe_lst (pa_cons (pe_tup pa_nil) pa_nil))) (pss_cons (ps_for PassesOwn.never rfl (pi_zip (by rfl) T.b_zip (pa_cons (pe_fld (pv 0) rfl) (pa_cons (pe_fld (pv 0) rfl) pa_nil))) (pg_tup rfl (pgs_cons (pg_name (i := 2) sc_candidate_assignments.nd rfl (.inl rfl)) (pgs_cons (pg_name (i := 3) sc_candidate_assignments.nd rfl (.inl rfl)) pgs_nil))) (pss_cons (ps_set (i := 4) sc_candidate_assignments.nd rfl (.inl rfl) (pe_lst pa_nil)) (pss_cons (ps_for PassesOwn.never rfl (pi_list (pv 1)) (pg_name (i := 5) sc_candidate_assignments.nd rfl (.inl rfl)) (pss_one (ps_for PassesOwn.never rfl (pi_list (pe_c k_choices_of hr (by decide) rfl (pa_cons (pv 2) (pa_cons (pv 3) pa_nil)))) (pg_name (i := 6) sc_candidate_assignments.nd rfl (.inl rfl)) (pss_one (ps_expr (pe_bm PySem.F.plainAttrs_list PySem.F.slot_list_append PySem.F.type_list_append mt_append (pv 4) (pa_cons (pe_op op_catA (pv 5) (pe_tup (pa_cons (pv 6) pa_nil))) pa_nil))))))) (pss_one (ps_set (i := 1) sc_candidate_assignments.nd rfl (.inl rfl) (pv 4)))))) (pss_one (ps_ret (pe_lc (own := [("assignment", 5)]) rfl sc_candidate_assignments.nd (pi_list (pv 1)) (blkOk_by (own := [("assignment", 5)]) (N := N_candidate_assignments) (sc := defScope s_candidate_assignments) (by decide +kernel)) (fun _ _ _ _ _ => (pg_name (i := 5) sc_candidate_assignments.nd rfl (.inl rfl))) (fun _ _ _ _ _ => (pts_one (pt_val (pe_c k_is_feasible hr (by decide) rfl (pa_cons (pv 0) (pa_cons (pv 5) pa_nil)))))) (fun _ _ _ _ _ => (pv 5))))))), ?_⟩
    have wf := wf_of o
    have ft := fits_of o
    have nfl : c.spec.flows.length = c.flows.length := List.length_map _
    -- found = [()]
    refine ⟨Nat.zero_le _, fun u nu => ⟨by show 1 ≤ sizeLine; decide, fun fo nfo => ?_⟩⟩
    have ufo : u ≠ fo := fun z => by
      rw [← z, upd_same] at nfo
      cases nfo
    have e0 : Ex H (upd (upd H u (.tup [])) fo (.lst [.ref u])) := (Ex.new nu).trans (Ex.new nfo)
    have hc0 := hc.mono e0
    have t0 : TuL (upd (upd H u (.tup [])) fo (.lst [.ref u])) fo [(u, [])] := ⟨upd_same, fun x hx => by
      rw [List.mem_singleton.mp hx]
      show upd (upd H u (.tup [])) fo _ u = _
      rw [upd_ne ufo]
      exact upd_same⟩
    have hF : ∀ H', Ex H H' → SqL K H' c.fa c.frefs := fun H' e => sq_of (e _ _ (NtC.hF hc))
    have hS : ∀ H', Ex H H' → SqL K H' c.sa (nats c.asg) := fun H' e => sq_of (e _ _ (NtC.hS hc))
    refine q_forZo (a := c.fa) (b := c.sa) (xs := c.frefs) (ys := nats c.asg) (ea_cons (evN2 T hc0 (ev_var rfl)) (ea_cons (evN3 T hc0 (ev_var rfl)) ea_nil)) (hF _ e0) (hS _ e0)
      (fun i σ' H' => ∃ (fo : Addr) (l : List (Addr × List Nat)) (y2 y3 y4 y5 y6 : Option V), σ' = [some (.ref c.a), some (.ref fo), y2, y3, y4, y5, y6] ∧ Ex H H' ∧ H fo = none ∧ TuL H' fo l ∧ l.map (·.2) = Su203.enumerateAssignments c.spec (List.range i) c.asg ∧ i ≤ c.flows.length)
      (fun H1 e1 => ⟨fo, _, none, none, none, none, none, rfl, e0.trans e1, fresh_back (Ex.new nu) nfo, t0.ex e1, rfl, Nat.zero_le _⟩)
      (fun i σ' H' p => by
        obtain ⟨_, _, _, _, _, _, _, _, e, _⟩ := p
        exact ⟨hF H' e, hS H' e⟩) ?_ ?_
    · rintro i x y σ' H' hx hy ⟨fo, l, y2, y3, y4, y5, y6, rfl, e1, nfo, tl, hl, hi⟩ H1 e2
      obtain ⟨g, hg, rfl⟩ := refs_get hx
      obtain ⟨ch, hch, rfl⟩ := nats_at hy
      have hil := (List.getElem?_eq_some_iff.mp hg).1
      have e02 := e1.trans e2
      have hgo := wf.2.2 g (List.mem_of_getElem? hg)
      have hgl := NtC.hFl hc hg
      have few := few_enum o (i := i) (by rw [nfl]; exact hi) c.asg
      rw [← hl, List.length_map] at few
      have hop : optsF g ch = opts c.spec c.asg i := by rw [opts_spec hg, getD_of hch]
      have lop := optsF_len hgo.few ch
      -- longer = []
      refine q_asgL (el_lst ea_nil (Nat.zero_le _)) fun lo H2 nlo e3 hlo => ?_
      have nlo0 : H lo = none := fresh_back e02 nlo
      have folo : fo ≠ lo := ne_of_none (e2 _ _ tl.1) nlo
      have e03 := e02.trans e3
      -- for assignment in found
      refine q_forLn (a := fo) (xs := l.map fun e => .ref e.1) (ev_var rfl) (sq_of (e3 _ _ (e2 _ _ tl.1))) (fun j σ' H' => ∃ (acc : List (Addr × List Nat)) (y5 y6 : Option V), σ' = [some (.ref c.a), some (.ref fo), some (.ref g.a), some (.int (ch : Int)), some (.ref lo), y5, y6] ∧ Ex H H' ∧ TuL H' fo l ∧ TuL H' lo acc ∧ acc.map (·.2) = (l.take j).flatMap fun e => (optsF g ch).map fun p => e.2 ++ [p])
        (fun H3 e4 => ⟨[], _, _, rfl, e03.trans e4, tl.ex ((e2.trans e3).trans e4), ⟨e4 _ _ hlo, fun x hx => (List.not_mem_nil hx).elim⟩, rfl⟩) (fun j σ' H' _ p => by
          obtain ⟨_, _, _, _, _, tf, _⟩ := p
          exact sq_of tf.1) ?_ ?_
      · rintro j x σ' H' hx ⟨acc, y5, y6, rfl, e4, tf, ta, ha⟩
        rw [List.getElem?_map] at hx
        cases hj : l[j]? with
        | none =>
          rw [hj] at hx
          cases hx
        | some e =>
        rw [hj] at hx
        have hx := (Option.some.inj hx).symm
        subst hx
        have hem := List.mem_of_getElem? hj
        have hjl := (List.getElem?_eq_some_iff.mp hj).1
        have hes : e.2.length ≤ 5 := by
          have hm : e.2 ∈ Su203.enumerateAssignments c.spec (List.range i) c.asg := by
            rw [← hl]
            exact List.mem_map_of_mem hem
          have := (mem_enum.mp hm).1
          rw [List.length_range] at this
          have := wf.2.1
          omega
        -- for choice in choices_of(flow, current)
        refine s_forNL (xs := nats (optsF g ch)) (el_call (ea_cons (ev_var rfl) (ea_cons (ev_var rfl) ea_nil)) (use_choices_of (hgl.mono e4) hgo.few)) (fun p k' σ' H' => ∃ (acc' : List (Addr × List Nat)) (y6 : Option V), σ' = [some (.ref c.a), some (.ref fo), some (.ref g.a), some (.int (ch : Int)), some (.ref lo), some (.ref e.1), y6] ∧ Ex H H' ∧ TuL H' fo l ∧ TuL H' lo acc' ∧ H' p = some (.lst (nats (optsF g ch))) ∧ p ≠ lo ∧ acc'.map (·.2) = ((l.take j).flatMap fun e => (optsF g ch).map fun p => e.2 ++ [p]) ++ ((optsF g ch).take k').map fun p => e.2 ++ [p])
          (fun p H5 np e5 hp => ⟨acc, _, rfl, e4.trans e5, tf.ex e5, ta.ex e5, hp, (ne_of_none ta.1 np).symm, by
            show _ = _ ++ []
            rw [List.append_nil]
            exact ha⟩) (fun p k' σ' H' _ q => by
            obtain ⟨_, _, _, _, _, _, hp, _⟩ := q
            exact sq_of hp) ?_ ?_
        · rintro p k' x σ' H' hx ⟨acc', y6, rfl, e5, tf', ta', hp, plo, ha'⟩
          obtain ⟨v, hv, rfl⟩ := nats_at hx
          have lacc : acc'.length ≤ 100 * 1000 - 1 := by
            rw [← List.length_map (f := fun e : Addr × List Nat => e.2), ha', List.length_append, List.length_map]
            have h1 := flat_len (fun e : Addr × List Nat => (optsF g ch).map fun p => e.2 ++ [p]) 3 (l.take j) fun x _ => by rw [List.length_map]; exact lop
            have h2 := List.length_take_le' j l
            have h3 := List.length_take_le' k' (optsF g ch)
            omega
          refine s_appU (xs := acc'.map fun e => V.ref e.1) (ys := nats (e.2 ++ [v])) ta'.1 (ev_var rfl) (by
            have r := eu_catS (K := K) (σ := [some (.ref c.a), some (.ref fo), some (.ref g.a), some (.int (ch : Int)), some (.ref lo), some (.ref e.1), some (.int (v : Int))]) (ev_var (i := 5) rfl) (st_of (tf'.2 e hem)) (eu_tup (ea_cons (ev_var (i := 6) rfl) ea_nil) (by show 1 ≤ 100000; decide)) (by simp) (by rw [nats_len]; show _ + 1 ≤ _; omega)
            have en : nats e.2 ++ [V.int (v : Int)] = nats (e.2 ++ [v]) := by
              unfold nats
              rw [List.map_append]
              rfl
            rw [en] at r
            exact r) (by rw [List.length_map]; omega) fun t H6 nt e6 ht => ?_
          have nolt : ∀ xs, H6 lo ≠ some (.tup xs) := fun xs z => by
            rw [e6 _ _ ta'.1] at z
            cases z
          refine ⟨acc' ++ [(t, e.2 ++ [v])], _, rfl, Ex.mut (e5.trans e6) nlo0, (tf'.ex e6).upd folo nolt, ta'.snoc e6 ht, by rw [upd_ne plo]; exact e6 _ _ hp, plo, ?_⟩
          rw [List.map_append, ha', List.take_add_one, hv, List.map_append, List.append_assoc]
          rfl
        · rintro p σ' H' ⟨acc', y6, rfl, e5, tf', ta', hp, plo, ha'⟩
          rw [nats_len, List.take_length] at ha'
          exact ⟨acc', _, _, rfl, e5, tf', ta', by rw [flat_take _ hj]; exact ha'⟩
      · rintro σ' H' ⟨acc, y5, y6, rfl, e4, tf, ta, ha⟩
        rw [List.length_map, List.take_length] at ha
        -- found = longer
        refine s_asg (ev_var rfl) fun H5 e5 => ?_
        refine ⟨lo, acc, _, _, _, _, _, rfl, e4.trans e5, nlo0, ta.ex e5, ?_, hil⟩
        rw [ha, List.range_succ, enum_snoc, ← hl, List.flatMap_map, hop]
    · rintro σ' H' ⟨fo, l, y2, y3, y4, y5, y6, rfl, e1, nfo, tl, hl, hi⟩
      rw [List.length_map, nats_len, ft.1, Nat.min_self] at hl
      have few := few_enum o (i := c.flows.length) (by rw [nfl]; exact Nat.le_refl _) c.asg
      rw [← hl, List.length_map] at few
      have hfi : c.spec.flowIndices = List.range c.flows.length := by
        unfold Su203.Network.flowIndices
        rw [nfl]
      have hfit : ∀ e ∈ l, Fits c e.2 := fun e he => enum_fits (s := c.asg) (by
        rw [hfi, ← hl]
        exact List.mem_map_of_mem he) ft
      have lg : ∀ {i : Nat} {x : V}, (l.map fun e => V.ref e.1)[i]? = some x → ∃ e, l[i]? = some e ∧ x = .ref e.1 := fun {i x} h => refs_get h
      refine s_retL (el_lcL (xs := l.map fun e => .ref e.1) (fun i => c.spec.isFeasible (l.getD i (0, [])).2) (fun i => .ref (l.getD i (0, [])).1) (ev_var rfl) (sq_of tl.1) (by rw [List.length_map]; omega) (fun _ => rfl) (fun i x H2 e2 hx => ?_) (fun i x H2 e2 hx _ => ?_)) fun p H2 hp e2 hl2 => ?_
      · obtain ⟨e, he, rfl⟩ := lg hx
        have hem := List.mem_of_getElem? he
        rw [List.getD_eq_getElem?_getD, he]
        exact et_B (ev_call (ea_cons (ev_var rfl) (ea_cons (ev_var rfl) ea_nil)) (use_is_feasible (kb := true) (hc.mono (e1.trans e2)) (sb_t (e2 _ _ (tl.2 e hem))) wf (hfit e hem)))
      · obtain ⟨e, he, rfl⟩ := lg hx
        rw [List.getD_eq_getElem?_getD, he]
        exact ev_var rfl
      · rw [List.length_map, given_filterA l (fun e => c.spec.isFeasible e.2) (fun e => V.ref e.1)] at hl2
        refine k p (l.filter fun e => c.spec.isFeasible e.2) H2 (fresh_back e1 hp) (e1.trans e2) ⟨hl2, fun x hx => e2 _ _ (tl.2 x (List.mem_filter.mp hx).1)⟩ ?_
        unfold Su203.Network.feasibleAssignments
        rw [hfi]
        show _ = (Su203.enumerateAssignments c.spec (List.range c.flows.length) c.asg).filter _
        rw [← hl, List.filter_map]
        rfl
end
end Fm

set_option Elab.async false
set_option linter.all false
set_option maxRecDepth 100000
set_option maxHeartbeats 4000000
/-! count_components, is_drained, find_drain, is_target_form. -/
namespace Fm
open C8 (pe_c pe_mk pe_gc)
open PySem PySem.Spec PyProof.Rows L2 Evl FmS
section
variable {P : Program} {w : World} {K : PySem.W.Frag} {mg : Str → Option Value} {base : Heap} {A : Adr}
/-! ### count_components -/
def sp_count_components (A : Adr) : Sp := fun vs H Q _ => ∃ (c : NtC) (ca : Addr) (l : List (Addr × List Nat)), vs = [.ref c.a, .ref ca] ∧ Hold H (c.cells A) ∧ SpOk c.spec ∧ TuL H ca l ∧ l.map (·.2) = c.spec.feasibleAssignments ∧ RetV (.int (firsts c.spec [] c.spec.feasibleAssignments : Nat)) H Q
theorem use_count_components {H : Hp} {c : NtC} {ca : Addr} {l : List (Addr × List Nat)} (h : Hold H (c.cells A)) (o : SpOk c.spec) (t : TuL H ca l) (e : l.map (·.2) = c.spec.feasibleAssignments) : SpV (sp_count_components A) [.ref c.a, .ref ca] H (.int (firsts c.spec [] c.spec.feasibleAssignments : Nat)) := fun _ x _ q _ => ⟨c, ca, l, rfl, h.mono x, o, t.ex x, e, q⟩
/-- what is seen: all that is linked to a seed -/
def Seen (w : Su203.Network) (kvs : List (List L2.Key × V)) (seeds : List (List Nat)) : Prop := ∀ t, (valV kvs (keyL t)).isSome = true ↔ ∃ x ∈ seeds, Reach w x t
theorem firsts_cons (w : Su203.Network) (seen : List (List Nat)) (s : List Nat) (l : List (List Nat)) (h : Bool) (hh : h = true ↔ ∃ x ∈ seen, Reach w x s) : firsts w seen (s :: l) = (if h = true then 0 else 1) + firsts w (s :: seen) l := by
  have e : firsts w seen (s :: l) = (open Classical in if ∃ x ∈ seen, Reach w x s then 0 else 1) + firsts w (s :: seen) l := rfl
  rw [e]
  by_cases q : ∃ x ∈ seen, Reach w x s
  · rw [if_pos q, if_pos (hh.mpr q)]
  · rw [if_neg q, if_neg (fun z => q (hh.mp z))]
theorem len_put (kvs : List (List L2.Key × V)) (k : List L2.Key) (v : V) : (putK kvs k v).length ≤ kvs.length + 1 := length_putK kvs k v
theorem ok_count_components (T : Txt K mg A) (k_plans_from : Cal P w K mg base 4 "plans_from" (sp_plans_from A)) {f : Addr} {fd : FuncData} (F : Fun K "count_components" "count_components" s_count_components f fd) (g : mg "count_components" = some (.ref f)) (b : Binds K fd ["network", "candidates"] []) : Cal P w K mg base 5 "count_components" (sp_count_components A) := by
  refine ⟨f, fd, _, [], F.ok sc_count_components (fun vs H Q E h => ?_) (fun cdv A' outer s H vs Q E hr h => ?_), g, F.kp, b, .nil⟩
  · obtain ⟨c, ca, l, rfl, _⟩ := h
    rfl
  · obtain ⟨c, ca, l, rfl, hc, o, tl, hl, k⟩ := h
    refine ⟨_, (pss_cons (ps_set (i := 2) sc_count_components.nd rfl (.inl rfl) pe_dnewT) (pss_cons (ps_set (i := 3) sc_count_components.nd rfl (.inl rfl) pe_int) (pss_cons (ps_for PassesOwn.never rfl (pi_list (pv 1)) (pg_name (i := 4) sc_count_components.nd rfl (.inl rfl)) (pss_one (ps_if (pt_cmp (pc_dnotin (hu1 hr) (pv 4) (pv 2)) (by rfl)) (pss_cons (ps_aug (i := 3) sc_count_components.nd rfl (.inl rfl) pe_int ip_add) (pss_one (ps_for PassesOwn.never rfl (pi_keysT (pe_c k_plans_from hr (by decide) rfl (pa_cons (pv 0) (pa_cons (pv 4) pa_nil)))) (pg_name (i := 5) sc_count_components.nd rfl (.inl rfl)) (pss_one (ps_dput (hu1 hr) (pv 2) (pv 5) pe_bl rfl))))) pss_nil))) (pss_one (ps_ret (pv 3)))))), ?_⟩
    have wf := wf_of o
    have few := few_feasible o
    have ll : l.length ≤ 243 := by
      rw [← hl, List.length_map] at few
      exact few
    rw [← hl] at k
    -- seen = {}; components = 0
    refine fun sd nsd => ?_
    refine q_asg (ev_nat 0) fun H1 e1 => ?_
    have e01 := (Ex.new (o := HO.dT []) nsd).trans e1
    have tl1 := tl.ex e01
    refine q_forLn (a := ca) (xs := l.map fun e => .ref e.1) (ev_var rfl) (sq_of tl1.1) (fun i σ' H' => ∃ (kvs : List (List L2.Key × V)) (n : Nat) (y4 y5 : Option V), σ' = [some (.ref c.a), some (.ref ca), some (.ref sd), some (.int (n : Int)), y4, y5] ∧ Ex H H' ∧ H' sd = some (.dT kvs) ∧ kvs.length ≤ 243 * i ∧ Seen c.spec kvs ((l.map (·.2)).take i) ∧ n + firsts c.spec ((l.map (·.2)).take i).reverse ((l.map (·.2)).drop i) = firsts c.spec [] (l.map (·.2)) ∧ i ≤ l.length)
      (fun H2 e2 => ⟨[], 0, none, none, rfl, e01.trans e2, e2 _ _ (e1 _ _ upd_same), Nat.le_refl _, fun t => ⟨fun z => (by cases z), fun ⟨x, hx, _⟩ => (List.not_mem_nil hx).elim⟩, Nat.zero_add _, Nat.zero_le _⟩)
      (fun i σ' H' _ p => by
        obtain ⟨_, _, _, _, _, e, _⟩ := p
        exact sq_of (e _ _ tl.1)) ?_ ?_
    · rintro i x σ' H' hx ⟨kvs, n, y4, y5, rfl, e2, hsd, hlen, hseen, hn, hi⟩
      obtain ⟨e, he, rfl⟩ := refs_get (g := fun e : Addr × List Nat => e.1) hx
      have hil := (List.getElem?_eq_some_iff.mp he).1
      have hem := List.mem_of_getElem? he
      have hes : (l.map (·.2))[i]? = some e.2 := map_get he
      have hcd : Cand c.spec e.2 := (mem_feasible o).mp (by rw [← hl]; exact List.mem_map_of_mem hem)
      have hq := e2 _ _ (tl.2 e hem)
      have hdr : (l.map (·.2)).drop i = e.2 :: (l.map (·.2)).drop (i + 1) := by
        obtain ⟨hj, ej⟩ := List.getElem?_eq_some_iff.mp hes
        rw [← ej]
        exact List.drop_eq_getElem_cons hj
      have htk : (l.map (·.2)).take (i + 1) = (l.map (·.2)).take i ++ [e.2] := by
        rw [List.take_add_one, hes]
        rfl
      have hrev : ((l.map (·.2)).take (i + 1)).reverse = e.2 :: ((l.map (·.2)).take i).reverse := by
        rw [htk, List.reverse_append]
        rfl
      have mrev : ∀ t, (∃ x ∈ ((l.map (·.2)).take i).reverse, Reach c.spec x t) ↔ ∃ x ∈ (l.map (·.2)).take i, Reach c.spec x t := fun t => by simp only [List.mem_reverse]
      have fc := firsts_cons c.spec ((l.map (·.2)).take i).reverse e.2 ((l.map (·.2)).drop (i + 1)) (valV kvs (keyL e.2)).isSome ((hseen e.2).trans (mrev e.2).symm)
      rw [hdr, fc] at hn
      refine s_when (b := !(valV kvs (keyL e.2)).isSome) (et_dnotin (k := keyL e.2) (ev_var rfl) (ev_var rfl) hsd (by rw [nats_key]; exact hq)) (fun hb H3 e3 => ?_) (fun hb H3 e3 => ?_)
      · have hno : (valV kvs (keyL e.2)).isSome = false := by simpa using hb
        rw [hno, if_neg Bool.false_ne_true] at hn
        -- components += 1
        refine q_aug (f := fun i j => i + j) (a := (n : Int)) (b := 1) rfl ev_int fun H4 e4 => ?_
        rw [show (n : Int) + 1 = ((n + 1 : Nat) : Int) from rfl]
        have e34 := e3.trans e4
        have e04 := e2.trans e34
        -- for reached in plans_from(network, candidate): seen[reached] = True
        refine s_forKT (w := c.spec) (s := e.2) (ep_call (ea_cons (ev_var rfl) (ea_cons (ev_var rfl) ea_nil)) (use_plans_from (hc.mono e04) o wf (e34 _ _ hq) hcd)) (fun d o l' j σ' H' => ∃ (kvs' : List (List L2.Key × V)) (y5 : Option V), σ' = [some (.ref c.a), some (.ref ca), some (.ref sd), some (.int ((n + 1 : Nat) : Int)), some (.ref e.1), y5] ∧ Ex H H' ∧ H' sd = some (.dT kvs') ∧ H' d = some (.frz o (.dT (kvsOf l'))) ∧ Bfs c.spec e.2 (ents l') ∧ l'.length ≤ 243 ∧ kvs'.length ≤ 243 * i + j ∧ j ≤ l'.length ∧ ∀ t, (valV kvs' (keyL t)).isSome = true ↔ (∃ x ∈ (l.map (·.2)).take i, Reach c.spec x t) ∨ t ∈ (l'.take j).map (·.s))
          (fun d o l' H5 nd e5 hd bf few' => ⟨kvs, _, rfl, e04.trans e5, e5 _ _ (e34 _ _ hsd), hd, bf, few', hlen, Nat.zero_le _, fun t => by
            rw [hseen t]
            exact ⟨.inl, fun z => z.resolve_right (fun q => List.not_mem_nil q)⟩⟩)
          (fun d o l' j σ' H' p => by
            obtain ⟨_, _, _, _, _, hd, _⟩ := p
            exact hd) ?_ ?_
        · rintro d o l' j e' q σ' H' he' hq' ⟨kvs', y5, rfl, e5, hsd', hd, bf, few', hlen', hj, hs'⟩
          have hjl := (List.getElem?_eq_some_iff.mp he').1
          have hk243 : kvs'.length < 100000 := by
            have : 243 * i + j ≤ 243 * 243 + 243 := by
              have : i ≤ 243 := by omega
              have := Nat.mul_le_mul_left 243 this
              omega
            omega
          have sdd : d ≠ sd := fun z => by
            rw [z, hsd'] at hd
            cases hd
          refine s_dput (k := keyL e'.s) (v := .bl true) ev_c (ev_var rfl) (ev_var rfl) hsd' (by rw [nats_key]; exact hq') hk243 fun H6 e6 => ?_
          refine ⟨putK kvs' (keyL e'.s) (.bl true), _, rfl, Ex.mut (e5.trans e6) nsd, upd_same, by rw [upd_ne sdd]; exact e6 _ _ hd, bf, few', ?_, hjl, fun t => ?_⟩
          · have := len_put kvs' (keyL e'.s) (.bl true)
            omega
          · rw [valV_put, List.take_add_one, he', List.map_append, List.mem_append]
            show _ ↔ _ ∨ (_ ∨ t ∈ [e'.s])
            rw [List.mem_singleton]
            by_cases et : t = e'.s
            · subst et
              rw [if_pos rfl]
              exact ⟨fun _ => .inr (.inr rfl), fun _ => rfl⟩
            · rw [if_neg (fun z => et (keyL_inj z)), hs' t]
              constructor
              · rintro (z | z)
                · exact .inl z
                · exact .inr (.inl z)
              · rintro (z | z | z)
                · exact .inl z
                · exact .inr z
                · exact absurd z et
        · rintro d o' l' σ' H' ⟨kvs', y5, rfl, e5, hsd', hd, bf, few', hlen', hj, hs'⟩
          refine ⟨kvs', n + 1, _, _, rfl, e5, hsd', by rw [Nat.mul_succ]; omega, fun t => ?_, ?_, hil⟩
          · rw [hs' t, htk, List.take_length, ← ents_keys, bf.keys t]
            constructor
            · rintro (⟨x, hx, r⟩ | r)
              · exact ⟨x, List.mem_append_left _ hx, r⟩
              · exact ⟨e.2, List.mem_append_right _ (.head _), r⟩
            · rintro ⟨x, hx, r⟩
              rcases List.mem_append.mp hx with hx | hx
              · exact .inl ⟨x, hx, r⟩
              · rw [List.mem_singleton.mp hx] at r
                exact .inr r
          · rw [hrev]
            omega
      · have hyes : (valV kvs (keyL e.2)).isSome = true := by simpa using hb
        rw [hyes, if_pos rfl, Nat.zero_add] at hn
        refine ⟨kvs, n, _, _, rfl, e2.trans e3, e3 _ _ hsd, by rw [Nat.mul_succ]; omega, fun t => ?_, by rw [hrev]; exact hn, hil⟩
        rw [hseen t, htk]
        constructor
        · rintro ⟨x, hx, r⟩
          exact ⟨x, List.mem_append_left _ hx, r⟩
        · rintro ⟨x, hx, r⟩
          rcases List.mem_append.mp hx with hx | hx
          · exact ⟨x, hx, r⟩
          · rw [List.mem_singleton.mp hx] at r
            obtain ⟨y, hy, ry⟩ := (hseen e.2).mp hyes
            exact ⟨y, hy, reach_trans ry r⟩
    · rintro σ' H' ⟨kvs, n, y4, y5, rfl, e2, hsd, hlen, hseen, hn, hi⟩
      rw [List.length_map, List.drop_of_length_le (by rw [List.length_map]; exact Nat.le_refl _)] at hn
      have hn : n + 0 = firsts c.spec [] (l.map (·.2)) := hn
      refine s_ret (ev_var rfl) fun H3 e3 => ?_
      have r := k H3 (e2.trans e3)
      rw [← hn] at r
      exact r
/-! ### is_drained -/
def sp_is_drained (K : PySem.W.Frag) (A : Adr) : Sp := fun vs H Q _ => ∃ (c : NtC) (sa la : Addr) (s ks : List Nat), vs = [.ref c.a, .ref sa, .ref la] ∧ Hold H (c.cells A) ∧ H sa = some (.tup (nats s)) ∧ SqL K H la (nats ks) ∧ ks.length ≤ 1000 ∧ Wf c ∧ Fits c s ∧ RetV (.bl (ks.all fun k => !c.spec.isUsed s k)) H Q
theorem use_is_drained {H : Hp} {c : NtC} {sa la : Addr} {s ks : List Nat} (h : Hold H (c.cells A)) (hs : H sa = some (.tup (nats s))) (hk : SqL K H la (nats ks)) (hz : ks.length ≤ 1000) (wf : Wf c) (ft : Fits c s) : SpV (sp_is_drained K A) [.ref c.a, .ref sa, .ref la] H (.bl (ks.all fun k => !c.spec.isUsed s k)) := fun _ e _ q _ => ⟨c, sa, la, s, ks, rfl, h.mono e, e _ _ hs, ex_l e hk, hz, wf, ft, q⟩
theorem drained_iff (w : Su203.Network) (s ks : List Nat) : (ks.all fun k => !w.isUsed s k) = true ↔ ∀ f, f < w.flows.length → (ks.any fun k => (w.usedLinks f (s.getD f 0)).contains k) = false := by
  rw [List.all_eq_true]
  constructor
  · intro h f hf
    rw [List.any_eq_false]
    intro k hk z
    have := h k hk
    unfold Su203.Network.isUsed Su203.Network.flowIndices at this
    rw [Bool.not_eq_true', List.any_eq_false] at this
    exact this f (List.mem_range.mpr hf) z
  · intro h k hk
    unfold Su203.Network.isUsed Su203.Network.flowIndices
    rw [Bool.not_eq_true', List.any_eq_false]
    intro f hf z
    have := h f (List.mem_range.mp hf)
    rw [List.any_eq_false] at this
    exact this k hk z
theorem any_range (ks : List Nat) (q : Nat → Bool) : ((List.range ks.length).map fun i => q (ks.getD i 0)).any id = ks.any q := by
  have e : ks = (List.range ks.length).map fun i => ks.getD i 0 := by
    refine List.ext_getElem? fun j => ?_
    rw [List.getElem?_map]
    by_cases hj : j < ks.length
    · rw [List.getElem?_range hj, List.getElem?_eq_getElem hj]
      show some _ = some (ks.getD j 0)
      rw [List.getD_eq_getElem?_getD, List.getElem?_eq_getElem hj]
      rfl
    · rw [List.getElem?_eq_none (by omega), List.getElem?_eq_none (by rw [List.length_range]; omega)]
      rfl
  conv => rhs; rw [e]
  rw [List.any_map, List.any_map]
  rfl
theorem ok_is_drained (T : Txt K mg A) (k_uses_link : Cal P w K mg base 1 "uses_link" (sp_uses_link A)) {f : Addr} {fd : FuncData} (F : Fun K "is_drained" "is_drained" s_is_drained f fd) (g : mg "is_drained" = some (.ref f)) (b : Binds K fd ["network", "assignment", "links"] []) : Cal P w K mg base 2 "is_drained" (sp_is_drained K A) := by
  refine ⟨f, fd, _, [], F.ok sc_is_drained (fun vs H Q E h => ?_) (fun cdv A' outer s H vs Q E hr h => ?_), g, F.kp, b, .nil⟩
  · obtain ⟨c, sa, la, s, ks, rfl, _⟩ := h
    rfl
  · obtain ⟨c, sa, la, s, ks, rfl, hc, hs, hk, hz, wf, ft, k⟩ := h
    refine ⟨_, (pss_cons (ps_for PassesOwn.never rfl (pi_zip2 (by rfl) T.b_zip (pa_cons (pe_fld (pv 0) rfl) (pa_cons (pv 1) pa_nil))) (pg_tup rfl (pgs_cons (pg_name (i := 3) sc_is_drained.nd rfl (.inr rfl)) (pgs_cons (pg_name (i := 4) sc_is_drained.nd rfl (.inr rfl)) pgs_nil))) (pss_one (ps_if (pt_val (pe_callB (cr_any rfl) (by rfl) T.b_any PyProof.Rows.boot_any (pa_cons (pe_lc (own := [("link", 5)]) rfl sc_is_drained.nd (pi_list (pv 2)) (blkOk_by (own := [("link", 5)]) (N := N_is_drained) (sc := defScope s_is_drained) (by decide +kernel)) (fun _ _ _ _ _ => (pg_name (i := 5) sc_is_drained.nd rfl (.inl rfl))) (fun _ _ _ _ _ => pts_nil) (fun _ _ _ _ _ => (pe_c k_uses_link hr (by decide) rfl (pa_cons (pv 3) (pa_cons (pv 4) (pa_cons (pv 5) pa_nil)))))) pa_nil))) (pss_one (ps_ret pe_bl)) pss_nil))) (pss_one (ps_ret pe_bl))), ?_⟩
    have nfl : c.spec.flows.length = c.flows.length := List.length_map _
    refine q_forZ2 (k1 := false) (k2 := true) (a := c.fa) (b := sa) (xs := c.frefs) (ys := nats s) (ea_cons (evN2 T hc (ev_var rfl)) (ea_cons (ev_var rfl) ea_nil)) (sq_of (NtC.hF hc)) (sb_t hs) (fun i σ' H' => (∃ y3 y4 y5, σ' = [some (.ref c.a), some (.ref sa), some (.ref la), y3, y4, y5]) ∧ Ex H H' ∧ ∀ j, j < i → (ks.any fun k => (c.spec.usedLinks j (s.getD j 0)).contains k) = false)
      (fun H1 e1 => ⟨⟨none, none, none, rfl⟩, e1, fun j hj => absurd hj (Nat.not_lt_zero _)⟩) (fun i σ' H' p => ⟨sq_of (p.2.1 _ _ (NtC.hF hc)), sb_t (p.2.1 _ _ hs)⟩) ?_ ?_
    · rintro i x y σ' H' hx hy ⟨⟨y3, y4, y5, rfl⟩, e1, hno⟩ H1 e2
      obtain ⟨g, hg, rfl⟩ := refs_get hx
      obtain ⟨ch, hch, rfl⟩ := nats_at hy
      have e02 := e1.trans e2
      have hgl := (NtC.hFl hc hg).mono e02
      have hle : ch ≤ g.paths.length := by
        have := ft.2 i g hg
        rw [getD_of hch] at this
        exact this
      have hil : i < c.spec.flows.length := by rw [nfl]; exact (List.getElem?_eq_some_iff.mp hg).1
      have used : c.spec.usedLinks i (s.getD i 0) = usedF g ch := by rw [getD_of hch, used_spec hg]
      have el := el_lcL (K := K) (te := tCall (sp_uses_link A) [] E0 (tCons (tVar 3) (tCons (tVar 4) (tCons (tVar 5) tNil)))) (t := tYes) (tl := tVar 2) (j := 5) (vs := [5]) (σ := [some (.ref c.a), some (.ref sa), some (.ref la), some (.ref g.a), some (.int (ch : Int)), y5]) (H := H1) (a := la) (xs := nats ks) (fun _ => true) (fun i => .bl ((usedF g ch).contains (ks.getD i 0))) (ev_var rfl) (ex_l e02 hk) (by rw [nats_len]; omega) (fun _ => rfl) (fun _ _ _ _ _ => et_yes) (fun i x H2 e3 hx _ => by
        obtain ⟨kl, hkl, rfl⟩ := nats_at hx
        rw [getD_of hkl]
        exact ev_call (ea_cons (ev_var rfl) (ea_cons (ev_var rfl) (ea_cons (ev_var rfl) ea_nil))) (use_uses_link (hgl.mono e3) hle))
      rw [nats_len, given_all, show ((List.range ks.length).map fun i => V.bl ((usedF g ch).contains (ks.getD i 0))) = ((List.range ks.length).map fun i => (usedF g ch).contains (ks.getD i 0)).map V.bl by rw [List.map_map]; rfl] at el
      have ev := ev_any (K := K) el
      rw [any_range ks fun k => (usedF g ch).contains k] at ev
      refine s_when (b := ks.any fun k => (usedF g ch).contains k) (et_B ev) (fun hb H3 e3 => ?_) (fun hb H3 e3 => ?_)
      · refine s_ret ev_c fun H4 e4 => ?_
        have r := k H4 ((e02.trans e3).trans e4)
        have hf : (ks.all fun k => !c.spec.isUsed s k) = false := by
          rw [← Bool.not_eq_true, drained_iff]
          intro z
          have := z i hil
          rw [used, hb] at this
          cases this
        rw [hf] at r
        exact r
      · refine ⟨⟨_, _, _, rfl⟩, e02.trans e3, fun j hj => ?_⟩
        by_cases e : j = i
        · subst e
          rw [used]
          exact hb
        · exact hno j (by omega)
    · rintro σ' H' ⟨⟨y3, y4, y5, rfl⟩, e1, hno⟩
      rw [List.length_map, nats_len, ft.1, Nat.min_self] at hno
      refine s_ret ev_c fun H4 e4 => ?_
      have r := k H4 (e1.trans e4)
      have hf : (ks.all fun k => !c.spec.isUsed s k) = true := by
        rw [drained_iff, nfl]
        exact hno
      rw [hf] at r
      exact r
end
end Fm

set_option Elab.async false
set_option linter.all false
set_option maxRecDepth 100000
set_option maxHeartbeats 4000000
/-! What a call owns of the heap, what it leaves, what it answers. -/
namespace Fm
open C8 (pe_c pe_mk pe_gc)
open PySem PySem.Spec PyProof.Rows L2 Evl
abbrev keysOf (cs : Cells) : List Addr := cs.map (·.1)
structure Own (H : Hp) (cs : Cells) : Prop where
  hold : Hold H cs
  nd : (keysOf cs).Nodup
/-- all that was tracked outside ks is as it was -/
def Frame (H H' : Hp) (ks : List Addr) : Prop := ∀ b o, H b = some o → b ∉ ks → H' b = some o
section
variable {H H' H1 : Hp} {cs ds ns : Cells} {a p : Addr} {o o' : HO} {ks ls : List Addr}
theorem Frame.of_ex (e : Ex H H') : Frame H H' ks := fun b o h _ => e b o h
theorem Frame.trans (f : Frame H H1 ks) (g : Frame H1 H' ks) : Frame H H' ks := fun b o h n => g b o (f b o h n) n
theorem Frame.ex (f : Frame H H1 ks) (e : Ex H1 H') : Frame H H' ks := fun b o h n => e b o (f b o h n)
theorem Frame.upd (f : Frame H H1 ks) (h : a ∈ ks ∨ H a = none) : Frame H (upd H1 a o) ks := fun b u hb n => by
  have hne : b ≠ a := fun z => by
    subst z
    rcases h with h | h
    · exact n h
    · rw [h] at hb
      cases hb
  rw [upd_ne hne]
  exact f b u hb n
theorem Own.ex (h : Own H cs) (e : Ex H H') : Own H' cs := ⟨h.hold.mono e, h.nd⟩
theorem Own.perm (h : Own H cs) (q : cs.Perm ds) : Own H ds := ⟨fun p hp => h.hold p (q.mem_iff.mpr hp), (q.map (·.1)).nodup_iff.mp h.nd⟩
theorem Hold.key (h : Hold H cs) (hp : p ∈ keysOf cs) : ∃ o, H p = some o := by
  obtain ⟨q, hq, rfl⟩ := List.mem_map.mp hp
  exact ⟨q.2, h q hq⟩
theorem Hold.fresh (h : Hold H cs) (hp : H p = none) : p ∉ keysOf cs := fun z => by
  obtain ⟨o, e⟩ := h.key z
  rw [hp] at e
  cases e
/-- one owned object changes -/
theorem Own.put {c0 c1 : Cells} (h : Own H (c0 ++ (a, o) :: c1)) : Own (upd H a o') (c0 ++ (a, o') :: c1) := by
  have e : keysOf (c0 ++ (a, o') :: c1) = keysOf (c0 ++ (a, o) :: c1) := by
    unfold keysOf
    rw [List.map_append, List.map_append]
    rfl
  refine ⟨fun p hp => ?_, by rw [e]; exact h.nd⟩
  have nd := h.nd
  unfold keysOf at nd
  rw [List.map_append, List.map_cons, List.nodup_append] at nd
  obtain ⟨n0, n1, n2⟩ := nd
  rw [List.mem_append, List.mem_cons] at hp
  rcases hp with hp | rfl | hp
  · have hne : p.1 ≠ a := n2 p.1 (List.mem_map_of_mem hp) a (.head _)
    rw [upd_ne hne]
    exact h.hold p (List.mem_append_left _ hp)
  · exact upd_same
  · have hne : p.1 ≠ a := fun z => (List.nodup_cons.mp n1).1 (by
      have hm : p.1 ∈ c1.map (·.1) := List.mem_map_of_mem hp
      rw [z] at hm
      exact hm)
    rw [upd_ne hne]
    exact h.hold p (List.mem_append_right _ (.tail _ hp))
/-- new objects come to the owned ones -/
theorem Own.add (h : Own H cs) (n : Own H ns) (dis : ∀ b ∈ keysOf ns, b ∉ keysOf cs) : Own H (ns ++ cs) := by
  refine ⟨fun p hp => ?_, ?_⟩
  · rcases List.mem_append.mp hp with hp | hp
    · exact n.hold p hp
    · exact h.hold p hp
  · unfold keysOf
    rw [List.map_append, List.nodup_append]
    exact ⟨n.nd, h.nd, fun b hb c hc z => dis b hb (by rw [z]; exact hc)⟩
theorem Own.one (h : H a = some o) : Own H [(a, o)] := ⟨fun p hp => by
  rw [List.mem_singleton] at hp
  subst hp
  exact h, by simp⟩
end
/-- the network c lies in H, each of its objects once -/
def Net (A : Adr) (H : Hp) (c : NtC) : Prop := Own H (c.cells A)
abbrev NtC.keys (A : Adr) (c : NtC) : List Addr := keysOf (c.cells A)
def resV (r : Su203.Result) : List V := .int r.value :: nats r.fields
/-- what a call of the machine asks of what follows: c the network ahead of it, op the operation, ex what it takes over -/
def After (A : Adr) (H : Hp) (c : NtC) (op : Su203.Operation) (ex : List Addr) (Q : VK) : Prop := ∀ (H' : Hp) (c' : NtC) (p : Addr), Net A H' c' → c'.a = c.a →
  (∀ b ∈ c'.keys A, b ∈ c.keys A ∨ b ∈ ex ∨ H b = none) → Frame H H' (c.keys A) → H p = none → p ∉ c'.keys A → H' p = some (.lst (resV (Su203.execute c.spec op).2)) → c'.spec = (Su203.execute c.spec op).1 → Q (.ref p) H'
section
variable {A : Adr} {H H1 : Hp} {c : NtC} {op : Su203.Operation} {ex : List Addr} {Q : VK}
/-- the state stays -/
theorem After.stay {r : Su203.Result} (k : After A H c op ex Q) (n : Net A H c) (e : Ex H H1) (h : Su203.execute c.spec op = (c.spec, r)) : ∀ p H2, H1 p = none → Ex H1 H2 → H2 p = some (.lst (resV r)) → Q (.ref p) H2 := fun p H2 hp e2 hl =>
  k H2 c p (n.ex (e.trans e2)) rfl (fun b hb => .inl hb) (.of_ex (e.trans e2)) (fresh_back e hp) ((n.hold.mono e).fresh hp) (by rw [h]; exact hl) (by rw [h])
theorem After.err {code : Int} (k : After A H c op ex Q) (n : Net A H c) (e : Ex H H1) (h : Su203.execute c.spec op = (c.spec, Su203.error code)) : ∀ p H2, H1 p = none → Ex H1 H2 → H2 p = some (.lst [.int code]) → Q (.ref p) H2 := k.stay n e h
/-- the state changes -/
theorem After.go {c' : NtC} {r : Su203.Result} (k : After A H c op ex Q) (n : Net A H c) (n' : Net A H1 c') (ha : c'.a = c.a) (hk : ∀ b ∈ c'.keys A, b ∈ c.keys A ∨ b ∈ ex ∨ H b = none) (hs : ∀ b ∈ c.keys A, b ∈ c'.keys A) (f : Frame H H1 (c.keys A))
    (h : Su203.execute c.spec op = (c'.spec, r)) : ∀ p H2, H1 p = none → Ex H1 H2 → H2 p = some (.lst (resV r)) → Q (.ref p) H2 := fun p H2 hp e2 hl =>
  k H2 c' p (n'.ex e2) ha hk (f.ex e2) (by
    cases q : H p with
    | none => rfl
    | some o =>
      by_cases hm : p ∈ c.keys A
      · exact absurd (hs p hm) (n'.hold.fresh hp)
      · rw [f p o q hm] at hp
        cases hp) (n'.hold.fresh hp) (by rw [h]; exact hl) (by rw [h])
end
/-! ### new instances -/
def EvNew (te : TE) (σ : L2.St) (H : Hp) (Pn : Addr → Hp → Hp → Prop) : Prop := ∀ H1, Ex H H1 → ∀ Q : VK, (∀ x H2, H1 x = none → Ex H1 H2 → Pn x H1 H2 → Q (.ref x) H2) → te σ H1 Q
theorem putF_new {f : Str} {v : V} : putF f v [] = [(f, v)] := rfl
theorem putF_past {f g : Str} {v x : V} {r : List (Str × V)} (h : ¬ g = f) : putF f v ((g, x) :: r) = (g, x) :: putF f v r := if_neg h
section
variable {P : Program} {w : World} {K : PySem.W.Frag} {mg : Str → Option Value} {base : Heap} {A : Adr}
/-- an __init__ that stores what it is given: exactly this -/
def sp_Link (A : Adr) : Sp := fun vs H Q _ => ∃ (p dx : Addr) (u v c : Nat), vs = [.ref p, .int u, .int v, .int c] ∧ H p = some (.ins A.cLink dx []) ∧ ∀ l : LkC, l = ⟨p, dx, u, v, c⟩ → ∀ H', H' = upd H p (.ins A.cLink dx l.fs) → Q .non H'
theorem ok_Link_init (T : Txt K mg A) {f : Addr} {fd : FuncData} (F : Fun K "__init__" "Link.__init__" s_Link_init f fd) (M : Mk K A.cLink f) (g : mg "Link" = some (.ref A.cLink)) (b : Binds K fd ["self", "node_a", "node_b", "capacity"] []) : Mak P w K mg base 1 "Link" A.cLink (sp_Link A) := by
  refine ⟨f, fd, _, [], M, F.ok sc_Link_init (fun vs H Q E h => ?_) (fun cdv A' outer s H vs Q E hr h => ?_), g, b, .nil⟩
  · obtain ⟨p, dx, u, v, c, rfl, _⟩ := h
    rfl
  · obtain ⟨p, dx, u, v, c, rfl, hp, k⟩ := h
    refine ⟨_, (pss_cons (ps_fld (pv 0) (pv 1) rfl) (pss_cons (ps_fld (pv 0) (pv 2) rfl) (pss_one (ps_fld (pv 0) (pv 3) rfl)))), ?_⟩
    refine ⟨_, rfl, _, rfl, p, _, dx, _, rfl, hp, T.kLink, T.nLink_node_a, (by show 0 < 1000; decide), ?_⟩
    refine ⟨_, rfl, _, rfl, p, _, dx, _, rfl, upd_same, T.kLink, T.nLink_node_b, (by show 1 < 1000; decide), ?_⟩
    refine ⟨_, rfl, _, rfl, p, _, dx, _, rfl, upd_same, T.kLink, T.nLink_capacity, (by show 2 < 1000; decide), ?_⟩
    refine k _ rfl _ ?_
    rw [upd_upd, upd_upd]
    congr 2
def sp_Path (A : Adr) : Sp := fun vs H Q _ => ∃ (p dx na la : Addr), vs = [.ref p, .ref na, .ref la] ∧ H p = some (.ins A.cPath dx []) ∧ ∀ H', H' = upd H p (.ins A.cPath dx [("nodes", .ref na), ("links", .ref la)]) → Q .non H'
theorem ok_Path_init (T : Txt K mg A) {f : Addr} {fd : FuncData} (F : Fun K "__init__" "Path.__init__" s_Path_init f fd) (M : Mk K A.cPath f) (g : mg "Path" = some (.ref A.cPath)) (b : Binds K fd ["self", "nodes", "links"] []) : Mak P w K mg base 1 "Path" A.cPath (sp_Path A) := by
  refine ⟨f, fd, _, [], M, F.ok sc_Path_init (fun vs H Q E h => ?_) (fun cdv A' outer s H vs Q E hr h => ?_), g, b, .nil⟩
  · obtain ⟨p, dx, na, la, rfl, _⟩ := h
    rfl
  · obtain ⟨p, dx, na, la, rfl, hp, k⟩ := h
    refine ⟨_, (pss_cons (ps_fld (pv 0) (pv 1) rfl) (pss_one (ps_fld (pv 0) (pv 2) rfl))), ?_⟩
    refine ⟨_, rfl, _, rfl, p, _, dx, _, rfl, hp, T.kPath, T.nPath_nodes, (by show 0 < 1000; decide), ?_⟩
    refine ⟨_, rfl, _, rfl, p, _, dx, _, rfl, upd_same, T.kPath, T.nPath_links, (by show 1 < 1000; decide), ?_⟩
    refine k _ ?_
    rw [upd_upd]
    congr 2
def sp_Flow (A : Adr) : Sp := fun vs H Q _ => ∃ (p dx : Addr) (s t d : Nat), vs = [.ref p, .int s, .int t, .int d] ∧ H p = some (.ins A.cFlow dx []) ∧ ∀ (pa : Addr) (f : FlC), H pa = none → f = ⟨p, dx, pa, s, t, d, []⟩ → ∀ H', H' p = some (.ins A.cFlow dx f.fs) → H' pa = some (.lst []) → (∀ b o, H b = some o → b ≠ p → H' b = some o) → Q .non H'
theorem ok_Flow_init (T : Txt K mg A) {f : Addr} {fd : FuncData} (F : Fun K "__init__" "Flow.__init__" s_Flow_init f fd) (M : Mk K A.cFlow f) (g : mg "Flow" = some (.ref A.cFlow)) (b : Binds K fd ["self", "source", "destination", "demand"] []) : Mak P w K mg base 1 "Flow" A.cFlow (sp_Flow A) := by
  refine ⟨f, fd, _, [], M, F.ok sc_Flow_init (fun vs H Q E h => ?_) (fun cdv A' outer s H vs Q E hr h => ?_), g, b, .nil⟩
  · obtain ⟨p, dx, u, v, c, rfl, _⟩ := h
    rfl
  · obtain ⟨p, dx, u, v, c, rfl, hp, k⟩ := h
    refine ⟨_, (pss_cons (ps_fld (pv 0) (pv 1) rfl) (pss_cons (ps_fld (pv 0) (pv 2) rfl) (pss_cons (ps_fld (pv 0) (pv 3) rfl) (pss_one (ps_fld (pv 0) (pe_lst pa_nil) rfl))))), ?_⟩
    refine ⟨_, rfl, _, rfl, p, _, dx, _, rfl, hp, T.kFlow, T.nFlow_source, (by show 0 < 1000; decide), ?_⟩
    refine ⟨_, rfl, _, rfl, p, _, dx, _, rfl, upd_same, T.kFlow, T.nFlow_destination, (by show 1 < 1000; decide), ?_⟩
    refine ⟨_, rfl, _, rfl, p, _, dx, _, rfl, upd_same, T.kFlow, T.nFlow_demand, (by show 2 < 1000; decide), ?_⟩
    rw [upd_upd, upd_upd]
    refine ⟨Nat.zero_le _, fun pa npa => ?_⟩
    have hne : pa ≠ p := fun z => by
      rw [z, upd_same] at npa
      cases npa
    rw [upd_ne hne] at npa
    refine ⟨_, rfl, p, _, dx, _, rfl, (upd_ne hne.symm).trans upd_same, T.kFlow, T.nFlow_paths, (by show 3 < 1000; decide), ?_⟩
    refine k pa _ npa rfl _ upd_same ((upd_ne hne).trans upd_same) fun b o hb hn => ?_
    rw [upd_ne hn, upd_ne (ne_of_none hb npa), upd_ne hn]
    exact hb
def sp_Network (A : Adr) : Sp := fun vs H Q _ => ∃ (p dx : Addr) (n : Nat), vs = [.ref p, .int n] ∧ H p = some (.ins A.cNetwork dx []) ∧ ∀ (la fa sa : Addr) (c : NtC), H la = none → H fa = none → H sa = none → la ≠ fa → la ≠ sa → fa ≠ sa → c = ⟨p, dx, la, fa, sa, n, [], [], []⟩ →
  ∀ H', H' p = some (.ins A.cNetwork dx c.fs) → H' la = some (.lst []) → H' fa = some (.lst []) → H' sa = some (.lst []) → (∀ b o, H b = some o → b ≠ p → H' b = some o) → Q .non H'
theorem ok_Network_init (T : Txt K mg A) {f : Addr} {fd : FuncData} (F : Fun K "__init__" "Network.__init__" s_Network_init f fd) (M : Mk K A.cNetwork f) (g : mg "Network" = some (.ref A.cNetwork)) (b : Binds K fd ["self", "node_count"] []) : Mak P w K mg base 1 "Network" A.cNetwork (sp_Network A) := by
  refine ⟨f, fd, _, [], M, F.ok sc_Network_init (fun vs H Q E h => ?_) (fun cdv A' outer s H vs Q E hr h => ?_), g, b, .nil⟩
  · obtain ⟨p, dx, n, rfl, _⟩ := h
    rfl
  · obtain ⟨p, dx, n, rfl, hp, k⟩ := h
    refine ⟨_, (pss_cons (ps_fld (pv 0) (pv 1) rfl) (pss_cons (ps_fld (pv 0) (pe_lst pa_nil) rfl) (pss_cons (ps_fld (pv 0) (pe_lst pa_nil) rfl) (pss_one (ps_fld (pv 0) (pe_lst pa_nil) rfl))))), ?_⟩
    refine ⟨_, rfl, _, rfl, p, _, dx, _, rfl, hp, T.kNetwork, T.nNetwork_node_count, (by show 0 < 1000; decide), ?_⟩
    refine ⟨Nat.zero_le _, fun la nla => ?_⟩
    have h1 : la ≠ p := fun z => by
      rw [z, upd_same] at nla
      cases nla
    refine ⟨_, rfl, p, _, dx, _, rfl, (upd_ne h1.symm).trans upd_same, T.kNetwork, T.nNetwork_links, (by show 1 < 1000; decide), ?_⟩
    refine ⟨Nat.zero_le _, fun fa nfa => ?_⟩
    have h2 : fa ≠ p := fun z => by
      rw [z, upd_same] at nfa
      cases nfa
    rw [upd_ne h2] at nfa
    have h3 : fa ≠ la := fun z => by
      rw [z, upd_same] at nfa
      cases nfa
    refine ⟨_, rfl, p, _, dx, _, rfl, (upd_ne h2.symm).trans upd_same, T.kNetwork, T.nNetwork_flows, (by show 2 < 1000; decide), ?_⟩
    refine ⟨Nat.zero_le _, fun sa nsa => ?_⟩
    have h4 : sa ≠ p := fun z => by
      rw [z, upd_same] at nsa
      cases nsa
    rw [upd_ne h4] at nsa
    have h5 : sa ≠ fa := fun z => by
      rw [z, upd_same] at nsa
      cases nsa
    rw [upd_ne h5, upd_ne h4] at nsa
    have h6 : sa ≠ la := fun z => by
      rw [z, upd_same] at nsa
      cases nsa
    refine ⟨_, rfl, p, _, dx, _, rfl, (upd_ne h4.symm).trans upd_same, T.kNetwork, T.nNetwork_assignment, (by show 3 < 1000; decide), ?_⟩
    rw [upd_ne h1] at nla
    rw [upd_ne h3, upd_ne h2] at nfa
    rw [upd_ne h6, upd_ne h4] at nsa
    refine k la fa sa _ nla nfa nsa h3.symm h6.symm h5.symm rfl _ upd_same ?_ ?_ ?_ fun b o hb hn => ?_
    · rw [upd_ne h1, upd_ne h6.symm, upd_ne h1, upd_ne h3.symm, upd_ne h1, upd_same]
    · rw [upd_ne h2, upd_ne h5.symm, upd_ne h2, upd_same]
    · rw [upd_ne h4, upd_same]
    · rw [upd_ne hn, upd_ne (ne_of_none hb nsa), upd_ne hn, upd_ne (ne_of_none hb nfa), upd_ne hn, upd_ne (ne_of_none hb nla), upd_ne hn]
      exact hb
/-! ### made by their names -/
variable {σ : L2.St} {H : Hp} {ta : TA} {ta' : TE}
theorem new_Link {u v c : Nat} (h : EvA ta σ H [.int u, .int v, .int c]) : EvNew (tMake A.cLink (sp_Link A) [] E0 ta) σ H (fun x _ H2 => ∃ dx, H2 x = some (.ins A.cLink dx (LkC.fs ⟨x, dx, u, v, c⟩))) := fun H1 e Q q =>
  h H1 e _ fun H0 e0 => fun x dx nx nd ne => ⟨x, dx, u, v, c, rfl, upd_same, fun l hl H' hH' => ⟨rfl, q x H' (fresh_back e0 nx) (e0.trans (by
    subst hl hH'
    exact fun b o hb => by
      rw [upd_ne (ne_of_none hb nx), upd_ne (ne_of_none hb nx), upd_ne (ne_of_none hb nd)]
      exact hb)) ⟨dx, by subst hl hH'; exact upd_same⟩⟩⟩
theorem new_Path {na : Addr} {xs : List V} {tb : TE} (h : Ev ta' σ H (.ref na)) (hb : EvL tb σ H xs) : EvNew (tMake A.cPath (sp_Path A) [] E0 (tCons ta' (tCons tb tNil))) σ H (fun x H1 H2 => ∃ dx la, H1 la = none ∧ la ≠ x ∧ H2 la = some (.lst xs) ∧ H2 x = some (.ins A.cPath dx [("nodes", .ref na), ("links", .ref la)])) := fun H1 e Q q =>
  h H1 e _ fun H3 e3 => hb H3 (e.trans e3) _ fun la H0 nla e0 hla => fun x dx nx nd ne => ⟨x, dx, na, la, rfl, upd_same, fun H' hH' => ⟨rfl, by
    have eH : Ex H0 H' := by
      subst hH'
      exact fun b o hb => by
        rw [upd_ne (ne_of_none hb nx), upd_ne (ne_of_none hb nx), upd_ne (ne_of_none hb nd)]
        exact hb
    exact q x H' (fresh_back (e3.trans e0) nx) ((e3.trans e0).trans eH) ⟨dx, la, fresh_back e3 nla, ne_of_none hla nx, eH _ _ hla, by subst hH'; exact upd_same⟩⟩⟩
theorem new_Flow {s t d : Nat} (h : EvA ta σ H [.int s, .int t, .int d]) : EvNew (tMake A.cFlow (sp_Flow A) [] E0 ta) σ H (fun x H1 H2 => ∃ dx pa, H1 pa = none ∧ pa ≠ x ∧ H2 pa = some (.lst []) ∧ H2 x = some (.ins A.cFlow dx (FlC.fs ⟨x, dx, pa, s, t, d, []⟩))) := fun H1 e Q q =>
  h H1 e _ fun H0 e0 => fun x dx nx nd ne => ⟨x, dx, s, t, d, rfl, upd_same, fun pa f npa hf H' h1 h2 h3 => ⟨rfl, q x H' (fresh_back e0 nx) (e0.trans fun b o hb => h3 b o (by rw [upd_ne (ne_of_none hb nx), upd_ne (ne_of_none hb nd)]; exact hb) (ne_of_none hb nx)) (by
    have hne : pa ≠ x := fun z => by
      rw [z, upd_same] at npa
      cases npa
    rw [upd_ne hne] at npa
    have hnd : pa ≠ dx := fun z => by
      rw [z, upd_same] at npa
      cases npa
    rw [upd_ne hnd] at npa
    subst hf
    exact ⟨dx, pa, fresh_back e0 npa, hne, h2, h1⟩)⟩⟩
theorem new_Network {n : Nat} (h : EvA ta σ H [.int n]) : EvNew (tMake A.cNetwork (sp_Network A) [] E0 ta) σ H (fun x H1 H2 => ∃ c : NtC, c.a = x ∧ c.spec = Su203.create n ∧ Net A H2 c ∧ ∀ b ∈ c.keys A, H1 b = none) := fun H1 e Q q =>
  h H1 e _ fun H0 e0 => fun x dx nx nd ne => ⟨x, dx, n, rfl, upd_same, fun la fa sa c n1 n2 n3 d1 d2 d3 hc H' h0 h1 h2 h3 h4 => ⟨rfl, q x H' (fresh_back e0 nx) (e0.trans fun b o hb => h4 b o (by rw [upd_ne (ne_of_none hb nx), upd_ne (ne_of_none hb nd)]; exact hb) (ne_of_none hb nx)) (by
    have back : ∀ b, (upd (upd H0 dx (.own x)) x (.ins A.cNetwork dx [])) b = none → b ≠ x ∧ H0 b = none := fun b hb => by
      have hne : b ≠ x := fun z => by
        rw [z, upd_same] at hb
        cases hb
      rw [upd_ne hne] at hb
      have hnd : b ≠ dx := fun z => by
        rw [z, upd_same] at hb
        cases hb
      rw [upd_ne hnd] at hb
      exact ⟨hne, hb⟩
    obtain ⟨a1, b1⟩ := back la n1
    obtain ⟨a2, b2⟩ := back fa n2
    obtain ⟨a3, b3⟩ := back sa n3
    subst hc
    refine ⟨⟨x, dx, la, fa, sa, n, [], [], []⟩, rfl, rfl, ⟨fun p hp => ?_, ?_⟩, fun b hb => ?_⟩
    · have hp' : p ∈ ([(x, HO.ins A.cNetwork dx _), (la, .lst []), (fa, .lst []), (sa, .lst [])] : Cells) := hp
      simp only [List.mem_cons, List.not_mem_nil, or_false] at hp'
      rcases hp' with rfl | rfl | rfl | rfl
      · exact h0
      · exact h1
      · exact h2
      · exact h3
    · show ([x, la, fa, sa] : List Addr).Nodup
      simp only [List.nodup_cons, List.mem_cons, List.not_mem_nil, or_false, not_or, List.nodup_nil, and_true, not_false_eq_true]
      exact ⟨⟨a1.symm, a2.symm, a3.symm⟩, ⟨d1, d2⟩, d3⟩
    · have hb' : b ∈ ([x, la, fa, sa] : List Addr) := hb
      simp only [List.mem_cons, List.not_mem_nil, or_false] at hb'
      refine fresh_back e0 ?_
      rcases hb' with rfl | rfl | rfl | rfl
      · exact nx
      · exact b1
      · exact b2
      · exact b3)⟩⟩
end
end Fm

set_option Elab.async false
set_option linter.all false
set_option maxRecDepth 100000
set_option maxHeartbeats 4000000
/-! tell_moves, tell_plan, find_drain, is_target_form. -/
namespace Fm
open C8 (pe_c pe_mk pe_gc)
open PySem PySem.Spec PyProof.Rows L2 Evl FmS
def flatM (ms : List Mv) : List Nat := ms.flatMap fun m => [m.1, m.2 - 1]
theorem flatM_len (ms : List Mv) : (flatM ms).length = 2 * ms.length := by
  unfold flatM
  induction ms with
  | nil => rfl
  | cons m ms ih =>
    rw [List.flatMap_cons, List.length_append, ih]
    show 2 + 2 * ms.length = 2 * (ms.length + 1)
    omega
theorem resV_moves (ms : List Mv) : resV (Su203.okMoves ms) = nats (ms.length :: flatM ms) := rfl
section
variable {K : PySem.W.Frag} {σ : L2.St} {H H' : Hp} {t1 t2 : TE}
theorem ep_callU {sp : Sp} {v1 : V} {xs : List V} {w : Su203.Network} {s : List Nat} (h1 : Ev t1 σ H v1) (h2 : EvU t2 σ H xs) (hs : ∀ p H1, Ex H H1 → H1 p = some (.tup xs) → SpP sp [v1, .ref p] H1 w s) : EvP (tCall sp [] E0 (tCons t1 (tCons t2 tNil))) σ H w s := fun H1 e Q q =>
  h1 H1 e _ fun H2 e2 => h2 H2 (e.trans e2) _ fun p H3 _ e3 hp => by
    show sp ([v1, .ref p] ++ []) H3 Q E0
    rw [List.append_nil]
    exact hs p H3 ((e.trans e2).trans e3) hp H3 (Ex.refl H3) Q (q.back (e2.trans e3)) E0
end
section
variable {P : Program} {w : World} {K : PySem.W.Frag} {mg : Str → Option Value} {base : Heap} {A : Adr}
/-! ### tell_moves -/
def sp_tell_moves (A : Adr) : Sp := fun vs H Q _ => ∃ (p : Addr) (ts : List Addr) (ms : List Mv), vs = [.ref p] ∧ MvT H p ts ms ∧ ms.length ≤ 1000 ∧ RetL (nats (ms.length :: flatM ms)) H Q
theorem use_tell_moves {H : Hp} {p : Addr} {ts : List Addr} {ms : List Mv} (h : MvT H p ts ms) (hz : ms.length ≤ 1000) : SpL (sp_tell_moves A) [.ref p] H (nats (ms.length :: flatM ms)) := fun _ e _ q _ => ⟨p, ts, ms, rfl, h.ex e, hz, q⟩
theorem flatM_take {ms : List Mv} {i : Nat} {m : Mv} (h : ms[i]? = some m) : flatM (ms.take (i + 1)) = flatM (ms.take i) ++ [m.1, m.2 - 1] := flat_take _ h
theorem ok_tell_moves (T : Txt K mg A) {f : Addr} {fd : FuncData} (F : Fun K "tell_moves" "tell_moves" s_tell_moves f fd) (g : mg "tell_moves" = some (.ref f)) (b : Binds K fd ["moves"] []) : Cal P w K mg base 1 "tell_moves" (sp_tell_moves A) := by
  refine ⟨f, fd, _, [], F.ok sc_tell_moves (fun vs H Q E h => ?_) (fun cdv A' outer s H vs Q E hr h => ?_), g, F.kp, b, .nil⟩
  · obtain ⟨p, ts, ms, rfl, _⟩ := h
    rfl
  · obtain ⟨p, ts, ms, rfl, hm, hz, k⟩ := h
    refine ⟨_, (pss_cons (ps_set (i := 1) sc_tell_moves.nd rfl (.inl rfl) (pe_lst (pa_cons (pe_callB call_len_seq (by rfl) T.b_len PySem.boot_len (pa_cons (pv 0) pa_nil)) pa_nil))) (pss_cons (ps_for PassesOwn.never rfl (pi_list (pv 0)) (pg_name (i := 2) sc_tell_moves.nd rfl (.inl rfl)) (pss_one (ps_expr (pe_bm PySem.F.plainAttrs_list PySem.F.slot_list_extend PySem.F.type_list_extend mt_extendT (pv 1) (pa_cons (pv 2) pa_nil))))) (pss_one (ps_ret (pv 1))))), ?_⟩
    have el : Ev (tCB (rLenS K) (tCons (tVar 0) tNil)) [some (.ref p), none, none] H (.int (ms.length : Int)) := by
      have r := ev_lenN' (K := K) (σ := [some (.ref p), none, none]) (g := V.ref) (ev_var (i := 0) rfl) (sq_of hm.1)
      rw [hm.2.1] at r
      exact r
    refine q_asgL (el_lst (ea_cons el ea_nil) (by show 1 ≤ 100000; decide)) fun to H1 nto e1 hto => ?_
    have pto : p ≠ to := ne_of_none hm.1 nto
    refine (s_forMt (K := K) (D := { nx := tRet (tVar 1) _, rt := Q, bk := _, ct := _ }) (ev_var rfl) (hm.ex e1) (fun i σ' H' => (∃ y2, σ' = [some (.ref p), some (.ref to), y2]) ∧ Ex H H' ∧ MvT H' p ts ms ∧ H' to = some (.lst (nats (ms.length :: flatM (ms.take i))))) (fun H2 e2 => ⟨⟨none, rfl⟩, e1.trans e2, hm.ex (e1.trans e2), e2 _ _ hto⟩) (fun i σ' H' q => q.2.2.1) ?_ ?_)
    · rintro i t m σ' H' hi ht ⟨⟨y2, rfl⟩, e2, hm', hl⟩
      have hil := (List.getElem?_eq_some_iff.mp hi).1
      have hlen := flatM_len (ms.take i)
      have htk := List.length_take_le' i ms
      refine s_extT (xs := nats (ms.length :: flatM (ms.take i))) (ys := [.int (m.1 : Nat), .int ((m.2 - 1 : Nat) : Int)]) hl (ev_var rfl) (ev_var rfl) ht (by rw [nats_len, List.length_cons]; show _ + 2 ≤ _; omega) fun H3 e3 => ?_
      have nott : ∀ xs, H3 to ≠ some (.tup xs) := fun xs z => by
        rw [e3 _ _ hl] at z
        cases z
      refine ⟨⟨_, rfl⟩, Ex.mut (e2.trans e3) nto, (hm'.ex e3).upd pto nott, ?_⟩
      rw [upd_same, flatM_take hi]
      refine congrArg (fun z => some (HO.lst z)) ?_
      show nats (ms.length :: flatM (ms.take i)) ++ nats [m.1, m.2 - 1] = nats (ms.length :: (flatM (ms.take i) ++ [m.1, m.2 - 1]))
      unfold nats
      rw [← List.map_append]
      rfl
    · rintro σ' H' ⟨⟨y2, rfl⟩, e2, hm', hl⟩
      rw [List.take_length] at hl
      exact s_ret (ev_var rfl) fun H3 e3 => k to H3 nto (e2.trans e3) (e3 _ _ hl)
/-! ### tell_plan -/
/-- a plan as a value: None, or a list of moves -/
def PlanV (H : Hp) (v : V) (o : Option (List Mv)) : Prop := match o with
  | none => v = .non
  | some ms => ∃ (p : Addr) (ts : List Addr), v = .ref p ∧ MvT H p ts ms
theorem PlanV.ex {H H' : Hp} {v : V} {o : Option (List Mv)} (h : PlanV H v o) (e : Ex H H') : PlanV H' v o := by
  cases o with
  | none => exact h
  | some ms =>
    obtain ⟨p, ts, hv, hm⟩ := h
    exact ⟨p, ts, hv, hm.ex e⟩
def planR (o : Option (List Mv)) : Su203.Result := match o with
  | none => Su203.error (-33)
  | some ms => Su203.okMoves ms
def sp_tell_plan (A : Adr) : Sp := fun vs H Q _ => ∃ (v : V) (o : Option (List Mv)), vs = [v] ∧ PlanV H v o ∧ (∀ ms, o = some ms → ms.length ≤ 1000) ∧ RetL (resV (planR o)) H Q
theorem use_tell_plan {H : Hp} {v : V} {o : Option (List Mv)} (h : PlanV H v o) (hz : ∀ ms, o = some ms → ms.length ≤ 1000) : SpL (sp_tell_plan A) [v] H (resV (planR o)) := fun _ e _ q _ => ⟨v, o, rfl, h.ex e, hz, q⟩
theorem ok_tell_plan (T : Txt K mg A) (k_tell_moves : Cal P w K mg base 1 "tell_moves" (sp_tell_moves A)) {f : Addr} {fd : FuncData} (F : Fun K "tell_plan" "tell_plan" s_tell_plan f fd) (g : mg "tell_plan" = some (.ref f)) (b : Binds K fd ["plan"] []) : Cal P w K mg base 2 "tell_plan" (sp_tell_plan A) := by
  refine ⟨f, fd, _, [], F.ok sc_tell_plan (fun vs H Q E h => ?_) (fun cdv A' outer s H vs Q E hr h => ?_), g, F.kp, b, .nil⟩
  · obtain ⟨v, o, rfl, _⟩ := h
    rfl
  · obtain ⟨v, o, rfl, hp, hz, k⟩ := h
    refine ⟨_, (pss_cons (ps_if (pt_cmpR op_isN (pv 0) pe_non (nomark _)) (pss_one (ps_ret (pe_lst (pa_cons (pe_gc rfl T.c_NO_PLAN) pa_nil)))) pss_nil) (pss_one (ps_ret (pe_c k_tell_moves hr (by decide) rfl (pa_cons (pv 0) pa_nil))))), ?_⟩
    refine q_when (b := decide (v = .non)) (et_test (ev_isN (ev_var rfl))) (fun hb H1 e1 => ?_) (fun hb H1 e1 => ?_)
    · have hv := of_decide_eq_true hb
      cases o with
      | none =>
        obtain ⟨u, hu, ru⟩ := T.c_NO_PLAN
        exact s_retL (el_lst (ea_cons ev_c ea_nil) (by show 1 ≤ 100000; decide)) fun p H2 hp e2 hl => k p H2 (fresh_back e1 hp) (e1.trans e2) hl
      | some ms =>
        obtain ⟨p, ts, hv', _⟩ := hp
        rw [hv'] at hv
        cases hv
    · have hv := of_decide_eq_false hb
      cases o with
      | none => exact absurd hp hv
      | some ms =>
        obtain ⟨p, ts, rfl, hm⟩ := hp
        exact s_retL (el_call (ea_cons (ev_var rfl) ea_nil) (use_tell_moves (hm.ex e1) (hz ms rfl))) fun p H2 hp e2 hl => k p H2 (fresh_back e1 hp) (e1.trans e2) hl
/-! ### find_drain -/
def drained (w : Su203.Network) (ks t : List Nat) : Bool := ks.all fun k => !w.isUsed t k
def RetPl (w : Su203.Network) (T : List (List Nat)) (H : Hp) (Q : VK) : Prop := ∀ (v : V) (o : Option (List Mv)) (H2 : Hp), Ex H H2 → PlanV H2 v o → (∀ ms, o = some ms → ms.length ≤ 243) → (o = none → ∀ q, Valid w w.assignment q → run w.assignment q ∉ T) → (∀ ms, o = some ms → Best w T w.assignment ms) → Q v H2
def sp_find_drain (K : PySem.W.Frag) (A : Adr) : Sp := fun vs H Q _ => ∃ (c : NtC) (la : Addr) (ks : List Nat) (T : List (List Nat)), vs = [.ref c.a, .ref la] ∧ Hold H (c.cells A) ∧ SpOk c.spec ∧ SqL K H la (nats ks) ∧ ks.length ≤ 1000 ∧ (∀ t, Cand c.spec t → (t ∈ T ↔ drained c.spec ks t = true)) ∧ RetPl c.spec T H Q
theorem ok_find_drain (T : Txt K mg A) (k_plans_from : Cal P w K mg base 4 "plans_from" (sp_plans_from A)) (k_current_assignment : Cal P w K mg base 1 "current_assignment" (sp_current_assignment A)) (k_is_drained : Cal P w K mg base 2 "is_drained" (sp_is_drained K A)) {f : Addr} {fd : FuncData} (F : Fun K "find_drain" "find_drain" s_find_drain f fd) (g : mg "find_drain" = some (.ref f)) (b : Binds K fd ["network", "links"] []) : Cal P w K mg base 5 "find_drain" (sp_find_drain K A) := by
  refine ⟨f, fd, _, [], F.ok sc_find_drain (fun vs H Q E h => ?_) (fun cdv A' outer s H vs Q E hr h => ?_), g, F.kp, b, .nil⟩
  · obtain ⟨c, la, ks, TT, rfl, _⟩ := h
    rfl
  · obtain ⟨c, la, ks, TT, rfl, hc, o, hk, hz, hT, k⟩ := h
    refine ⟨_, (pss_cons (ps_for PassesOwn.never rfl (pi_itemsT (pe_c k_plans_from hr (by decide) rfl (pa_cons (pv 0) (pa_cons (pe_c k_current_assignment hr (by decide) rfl (pa_cons (pv 0) pa_nil)) pa_nil)))) (pg_tup rfl (pgs_cons (pg_name (i := 2) sc_find_drain.nd rfl (.inl rfl)) (pgs_cons (pg_name (i := 3) sc_find_drain.nd rfl (.inl rfl)) pgs_nil))) (pss_one (ps_if (pt_val (pe_c k_is_drained hr (by decide) rfl (pa_cons (pv 0) (pa_cons (pv 2) (pa_cons (pv 1) pa_nil))))) (pss_one (ps_ret (pv 3))) pss_nil))) (pss_one (ps_ret pe_non))), ?_⟩
    have wf := wf_of o
    have cand : ∀ {l : List EnC}, Bfs c.spec c.asg (ents l) → ∀ e ∈ l, Cand c.spec e.s := fun {l} bf e he => by
      obtain ⟨v, r⟩ := bf.valid e.ent (List.mem_map_of_mem he)
      have := valid_cand (cand_asg o) v
      rw [show run c.spec.assignment e.ent.2 = e.s from r] at this
      exact this
    refine q_forIT (w := c.spec) (s := c.asg) (ep_callU (ev_var rfl) (eu_call (ea_cons (ev_var rfl) ea_nil) (use_current_assignment hc)) fun p H1 e1 hp => use_plans_from (hc.mono e1) o wf hp (cand_asg o)) (fun d ob l i σ' H' => (∃ y2 y3, σ' = [some (.ref c.a), some (.ref la), y2, y3]) ∧ Ex H H' ∧ H' d = some (.frz ob (.dT (kvsOf l))) ∧ (∀ e ∈ l, MvT H' e.la e.ts e.p) ∧ Bfs c.spec c.asg (ents l) ∧ (∀ e ∈ l, e.p.length ≤ 243) ∧ ∀ j e, j < i → l[j]? = some e → e.s ∉ TT)
      (fun d ob l H1 nd e1 hd hm bf few fp => ⟨⟨none, none, rfl⟩, e1, hd, hm, bf, fp, fun j e hj => absurd hj (Nat.not_lt_zero _)⟩) (fun d ob l i σ' H' p => p.2.2.1) ?_ ?_
    · rintro d ob l i e q σ' H' he ⟨⟨y2, y3, rfl⟩, e1, hd, hm, bf, fp, hno⟩ H1 e2 hq
      have hem := List.mem_of_getElem? he
      have cde := cand bf e hem
      have e02 := e1.trans e2
      refine s_when (b := drained c.spec ks e.s) (et_B (ev_call (ea_cons (ev_var rfl) (ea_cons (ev_var rfl) (ea_cons (ev_var rfl) ea_nil))) (use_is_drained (hc.mono e02) hq (ex_l e02 hk) hz wf (fits_cand cde)))) (fun hb H3 e3 => ?_) (fun hb H3 e3 => ?_)
      · refine s_ret (ev_var rfl) fun H4 e4 => ?_
        refine k _ (some e.p) H4 ((e02.trans e3).trans e4) ⟨e.la, e.ts, rfl, (hm e hem).ex ((e2.trans e3).trans e4)⟩ (fun ms h => ?_) (fun h => (by cases h)) fun ms h => ?_
        · cases h
          exact fp e hem
        · cases h
          refine bf.best (T := TT) (i := i) (e := e.ent) (map_get he) ((hT e.s cde).mpr hb) fun j b hj hb' => ?_
          obtain ⟨x, hx, rfl⟩ : ∃ x, l[j]? = some x ∧ b = x.ent := by
            rw [List.getElem?_map] at hb'
            cases q : l[j]? with
            | none =>
              rw [q] at hb'
              cases hb'
            | some x =>
              rw [q] at hb'
              exact ⟨x, rfl, (Option.some.inj hb').symm⟩
          exact hno j x hj hx
      · refine ⟨⟨_, _, rfl⟩, e02.trans e3, (e2.trans e3) _ _ hd, fun x hx => (hm x hx).ex (e2.trans e3), bf, fp, fun j x hj hx => ?_⟩
        by_cases ej : j = i
        · subst ej
          have ex : e = x := Option.some.inj (he.symm.trans hx)
          subst ex
          intro z
          have := (hT e.s cde).mp z
          rw [hb] at this
          cases this
        · exact hno j x (by omega) hx
    · rintro d ob l σ' H' ⟨⟨y2, y3, rfl⟩, e1, hd, hm, bf, fp, hno⟩
      refine s_ret ev_c fun H4 e4 => ?_
      refine k .non none H4 (e1.trans e4) rfl (fun ms h => (by cases h)) (fun _ => bf.none fun b hb => ?_) fun ms h => (by cases h)
      obtain ⟨x, hx, rfl⟩ := List.mem_map.mp hb
      obtain ⟨j, hj⟩ := List.mem_iff_getElem?.mp hx
      exact hno j x (List.getElem?_eq_some_iff.mp hj).1 hj
/-! ### is_target_form -/
def badAt (w : Su203.Network) (t : List Nat) (f : Nat) : Bool := (t.getD f 0 == 0) != (w.assignment.getD f 0 == 0) || decide ((w.flow f).pathLinks.length < t.getD f 0)
def formOk (w : Su203.Network) (t : List Nat) : Bool := decide (t.length = w.flows.length) && !(w.flowIndices.any (badAt w t))
def sp_is_target_form (K : PySem.W.Frag) (A : Adr) : Sp := fun vs H Q _ => ∃ (c : NtC) (ta : Addr) (t : List Nat), vs = [.ref c.a, .ref ta] ∧ Hold H (c.cells A) ∧ SpOk c.spec ∧ SqL K H ta (nats t) ∧ RetV (.bl (formOk c.spec t)) H Q
theorem use_is_target_form {H : Hp} {c : NtC} {ta : Addr} {t : List Nat} (h : Hold H (c.cells A)) (o : SpOk c.spec) (ht : SqL K H ta (nats t)) : SpV (sp_is_target_form K A) [.ref c.a, .ref ta] H (.bl (formOk c.spec t)) := fun _ e _ q _ => ⟨c, ta, t, rfl, h.mono e, o, ex_l e ht, q⟩
theorem dec_beq0 (a : Nat) : decide (a = 0) = (a == 0) := by
  rw [Bool.eq_iff_iff]
  simp
theorem ne_bl (a b : Bool) : (!decide (V.bl a = V.bl b)) = (a != b) := by
  cases a <;> cases b <;> rfl
theorem ok_is_target_form (T : Txt K mg A) {f : Addr} {fd : FuncData} (F : Fun K "is_target_form" "is_target_form" s_is_target_form f fd) (g : mg "is_target_form" = some (.ref f)) (b : Binds K fd ["network", "target"] []) : Cal P w K mg base 1 "is_target_form" (sp_is_target_form K A) := by
  refine ⟨f, fd, _, [], F.ok sc_is_target_form (fun vs H Q E h => ?_) (fun cdv A' outer s H vs Q E hr h => ?_), g, F.kp, b, .nil⟩
  · obtain ⟨c, ta, t, rfl, _⟩ := h
    rfl
  · obtain ⟨c, ta, t, rfl, hc, o, ht, k⟩ := h
    refine ⟨_, (pss_cons (ps_if (pt_cmpR op_ne (pe_callB call_len_seq (by rfl) T.b_len PySem.boot_len (pa_cons (pv 1) pa_nil)) (pe_callB call_len_seq (by rfl) T.b_len PySem.boot_len (pa_cons (pe_fld (pv 0) rfl) pa_nil)) (nomark _)) (pss_one (ps_ret pe_bl)) pss_nil) (pss_cons (ps_for PassesOwn.never rfl (pi_zip3 (by rfl) T.b_zip (pa_cons (pe_fld (pv 0) rfl) (pa_cons (pe_fld (pv 0) rfl) (pa_cons (pv 1) pa_nil)))) (pg_tup rfl (pgs_cons (pg_name (i := 2) sc_is_target_form.nd rfl (.inl rfl)) (pgs_cons (pg_name (i := 3) sc_is_target_form.nd rfl (.inl rfl)) (pgs_cons (pg_name (i := 4) sc_is_target_form.nd rfl (.inl rfl)) pgs_nil)))) (pss_one (ps_if (PW.pt (pw_or (pt_cmpR op_gt (pv 4) (pe_callB call_len_seq (by rfl) T.b_len PySem.boot_len (pa_cons (pe_fld (pv 2) rfl) pa_nil)) (nomark _)) (pw_or1 (pt_cmpR op_ne (pe_cmpR op_eq (pv 4) pe_int (nomark _)) (pe_cmpR op_eq (pv 3) pe_int (nomark _)) (nomark _))))) (pss_one (ps_ret pe_bl)) pss_nil))) (pss_one (ps_ret pe_bl)))), ?_⟩
    have nfl : c.spec.flows.length = c.flows.length := List.length_map _
    have ft := fits_of o
    refine q_when (b := !decide (t.length = c.flows.length)) (et_test (ev_neN (ev_lenN' (K := K) (ev_var rfl) ht) (ev_lenN' (K := K) (evN2 T hc (ev_var rfl)) (sq_of (NtC.hF hc))))) (fun hb H1 e1 => ?_) (fun hb H1 e1 => ?_)
    · refine s_ret ev_c fun H2 e2 => ?_
      have r := k H2 (e1.trans e2)
      have hf : formOk c.spec t = false := by
        have : ¬ t.length = c.flows.length := by simpa using hb
        unfold formOk
        rw [nfl, decide_eq_false this]
        rfl
      rw [hf] at r
      exact r
    · have hlen : t.length = c.flows.length := by simpa using hb
      have hc1 := hc.mono e1
      refine q_forZ3 (k1 := false) (k2 := false) (k3 := false) (a := c.fa) (b := c.sa) (c := ta) (xs := c.frefs) (ys := nats c.asg) (zs := nats t) (ea_cons (evN2 T hc1 (ev_var rfl)) (ea_cons (evN3 T hc1 (ev_var rfl)) (ea_cons (ev_var rfl) ea_nil))) (sq_of (NtC.hF hc1)) (sq_of (NtC.hS hc1)) (ex_l e1 ht) c.flows.length (by
          rw [List.length_map, nats_len, nats_len, ft.1, hlen, Nat.min_self, Nat.min_self])
        (fun i σ' H' => (∃ y2 y3 y4, σ' = [some (.ref c.a), some (.ref ta), y2, y3, y4]) ∧ Ex H H' ∧ ∀ j, j < i → badAt c.spec t j = false)
        (fun H2 e2 => ⟨⟨none, none, none, rfl⟩, e1.trans e2, fun j hj => absurd hj (Nat.not_lt_zero _)⟩) (fun i σ' H' p => ⟨sq_of (p.2.1 _ _ (NtC.hF hc)), sq_of (p.2.1 _ _ (NtC.hS hc)), ex_l p.2.1 ht⟩) ?_ ?_
      · rintro i x y z σ' H' hx hy hz ⟨⟨y2, y3, y4, rfl⟩, e2, hno⟩ H2 e3
        obtain ⟨g, hg, rfl⟩ := refs_get hx
        obtain ⟨ch, hch, rfl⟩ := nats_at hy
        obtain ⟨v, hv, rfl⟩ := nats_at hz
        have hil := (List.getElem?_eq_some_iff.mp hg).1
        have e03 := e2.trans e3
        have hgl := (NtC.hFl hc hg).mono e03
        have hbad : badAt c.spec t i = (decide (g.paths.length < v) || ((v == 0) != (ch == 0))) := by
          unfold badAt
          rw [getD_of hv, show c.spec.assignment.getD i 0 = ch from getD_of hch, flow_of hg, flen, Bool.or_comm]
        refine s_when (b := badAt c.spec t i) (et_is (et_or (et_test (ev_gtN (ev_var rfl) (ev_lenN' (K := K) (evF3 T hgl (ev_var rfl)) (sq_of (FlC.hP hgl))))) fun _ => et_test (ev_is (ev_op (ev_is (ev_eqN (ev_var rfl) (ev_nat 0)) (congrArg V.bl (dec_beq0 v))) (ev_is (ev_eqN (ev_var rfl) (ev_nat 0)) (congrArg V.bl (dec_beq0 ch))) (rv_ne rfl)) (congrArg V.bl (ne_bl _ _)))) hbad.symm) (fun hb H4 e4 => ?_) (fun hb H4 e4 => ?_)
        · refine s_ret ev_c fun H5 e5 => ?_
          have r := k H5 ((e03.trans e4).trans e5)
          have hf : formOk c.spec t = false := by
            unfold formOk
            rw [show c.spec.flowIndices.any (badAt c.spec t) = true by
              rw [List.any_eq_true]
              exact ⟨i, List.mem_range.mpr (by rw [nfl]; exact hil), hb⟩]
            exact Bool.and_false _
          rw [hf] at r
          exact r
        · refine ⟨⟨_, _, _, rfl⟩, e03.trans e4, fun j hj => ?_⟩
          by_cases e : j = i
          · subst e
            exact hb
          · exact hno j (by omega)
      · rintro σ' H' ⟨⟨y2, y3, y4, rfl⟩, e2, hno⟩
        refine s_ret ev_c fun H5 e5 => ?_
        have r := k H5 (e2.trans e5)
        have hf : formOk c.spec t = true := by
          unfold formOk
          rw [nfl, decide_eq_true hlen, Bool.true_and, Bool.not_eq_true', List.any_eq_false]
          intro j hj z
          have hj := List.mem_range.mp hj
          rw [nfl] at hj
          rw [hno j hj] at z
          cases z
        rw [hf] at r
        exact r
end
end Fm

set_option Elab.async false
set_option linter.all false
set_option maxRecDepth 100000
set_option maxHeartbeats 4000000
/-! add_link, add_flow. -/
namespace Fm
open C8 (pe_c pe_mk pe_gc)
open PySem PySem.Spec PyProof.Rows L2 Evl
section
variable {K : PySem.W.Frag} {σ : L2.St} {H H' : Hp} {ta tb te tx : TE} {t u : TT} {D : Ends} {tu tz : TS}
/-- xs.append(a new object) -/
theorem s_appN {l : Addr} {xs : List V} {Pn : Addr → Hp → Hp → Prop} (hl : H l = some (.lst xs)) (ha : Ev ta σ H (.ref l)) (h : EvNew te σ H Pn) (hz : xs.length < 100000)
    (k : ∀ x H0 H2, Ex H H0 → H0 x = none → Ex H0 H2 → Pn x H0 H2 → D.nx σ (upd H2 l (.lst (xs ++ [.ref x])))) : tDrop (tBM K "list" rAppend ta (tCons te tNil)) D σ H := ha H (Ex.refl H) _ fun H1 e1 =>
  ⟨Or.inl ⟨rfl, xs, sq_of (e1 l _ hl)⟩, h H1 e1 _ fun x H2 nx e2 hP => ⟨l, xs, .ref x, rfl, rfl, e2 l _ (e1 l _ hl), sz_lt hz, k x H1 H2 e1 nx e2 hP⟩⟩
theorem q_appN {l : Addr} {xs : List V} {Pn : Addr → Hp → Hp → Prop} (hl : H l = some (.lst xs)) (ha : Ev ta σ H (.ref l)) (h : EvNew te σ H Pn) (hz : xs.length < 100000)
    (k : ∀ x H0 H2, Ex H H0 → H0 x = none → Ex H0 H2 → Pn x H0 H2 → tz D σ (upd H2 l (.lst (xs ++ [.ref x])))) : tSeq (tDrop (tBM K "list" rAppend ta (tCons te tNil))) tz D σ H := s_appN (D := { D with nx := tz D }) hl ha h hz k
/-- o.f = a new object -/
theorem s_fldN {a C dx : Addr} {fs : List (Str × V)} {f : Str} {Pn : Addr → Hp → Hp → Prop} (hv : EvNew tb σ H Pn) (h : Ev ta σ H (.ref a)) (ho : H a = some (.ins C dx fs)) (hc : Cls K C) (hn : NoAttr K C f) (hl : fs.length < 1000)
    (k : ∀ x H2 H3, H x = none → Ex H H2 → Pn x H H2 → Ex H2 H3 → D.nx σ (upd H3 a (.ins C dx (putF f (.ref x) fs)))) : sFld K ta tb f D σ H :=
  hv H (Ex.refl H) _ fun x H2 nx e2 hP => h H2 e2 _ fun H3 e3 => ⟨a, C, dx, fs, rfl, e3 a _ (e2 a _ ho), hc, hn, hl, k x H2 H3 nx e2 hP e3⟩
theorem q_fldN {a C dx : Addr} {fs : List (Str × V)} {f : Str} {Pn : Addr → Hp → Hp → Prop} (hv : EvNew tb σ H Pn) (h : Ev ta σ H (.ref a)) (ho : H a = some (.ins C dx fs)) (hc : Cls K C) (hn : NoAttr K C f) (hl : fs.length < 1000)
    (k : ∀ x H2 H3, H x = none → Ex H H2 → Pn x H H2 → Ex H2 H3 → tz D σ (upd H3 a (.ins C dx (putF f (.ref x) fs)))) : tSeq (sFld K ta tb f) tz D σ H := s_fldN (D := { D with nx := tz D }) hv h ho hc hn hl k
theorem opt_notN (o : Option Nat) : (!decide (optV o = .non)) = o.isSome := by
  cases o with
  | none => rfl
  | some n => rfl
/-- return [CODE] -/
theorem s_code {code : Int} {D : Ends} (k : ∀ p H2, H p = none → Ex H H2 → H2 p = some (.lst [.int code]) → D.rt (.ref p) H2) : tRet (tLst (tCons (tC (.int code)) tNil)) D σ H :=
  s_retL (el_lst (ea_cons ev_c ea_nil) (by show 1 ≤ 100000; decide)) k
theorem s_one {v : V} {D : Ends} (h : Ev te σ H v) (k : ∀ p H2, H p = none → Ex H H2 → H2 p = some (.lst [v]) → D.rt (.ref p) H2) : tRet (tLst (tCons te tNil)) D σ H :=
  s_retL (el_lst (ea_cons h ea_nil) (by show 1 ≤ 100000; decide)) k
end
section
variable {P : Program} {w : World} {K : PySem.W.Frag} {mg : Str → Option Value} {base : Heap} {A : Adr}
/-! ### add_link -/
def sp_add_link (A : Adr) : Sp := fun vs H Q _ => ∃ (c : NtC) (u v cap : Nat), vs = [.ref c.a, .int u, .int v, .int cap] ∧ Net A H c ∧ After A H c (.addLink u v cap) [] Q
theorem spec_nodes (c : NtC) : c.spec.nodes = c.n := rfl
theorem spec_links_len (c : NtC) : c.spec.links.length = c.links.length := List.length_map _
theorem spec_flows_len (c : NtC) : c.spec.flows.length = c.flows.length := List.length_map _
theorem ok_add_link (T : Txt K mg A) (k_has_node : Cal P w K mg base 1 "has_node" (sp_has_node A)) (k_link_between : Cal P w K mg base 1 "link_between" (sp_link_between A)) (m_Link : Mak P w K mg base 1 "Link" A.cLink (sp_Link A))
    {f : Addr} {fd : FuncData} (F : Fun K "add_link" "add_link" s_add_link f fd) (g : mg "add_link" = some (.ref f)) (b : Binds K fd ["network", "node_a", "node_b", "capacity"] []) : Cal P w K mg base 3 "add_link" (sp_add_link A) := by
  refine ⟨f, fd, _, [], F.ok sc_add_link (fun vs H Q E h => ?_) (fun cdv A' outer s H vs Q E hr h => ?_), g, F.kp, b, .nil⟩
  · obtain ⟨c, u, v, cap, rfl, _⟩ := h
    rfl
  · obtain ⟨c, u, v, cap, rfl, n, k⟩ := h
    refine ⟨_, (pss_cons (ps_if (PW.pt (pw_or (pt_not (pt_val (pe_c k_has_node hr (by decide) rfl (pa_cons (pv 0) (pa_cons (pv 1) pa_nil))))) (pw_or1 (pt_not (pt_val (pe_c k_has_node hr (by decide) rfl (pa_cons (pv 0) (pa_cons (pv 2) pa_nil)))))))) (pss_one (ps_ret (pe_lst (pa_cons (pe_gc rfl T.c_MISSING) pa_nil)))) pss_nil) (pss_cons (ps_if (PW.pt (pw_or (pt_cmpR op_eq (pv 1) (pv 2) (nomark _)) (pw_or1 (pt_cmpR op_gt (pv 3) (pe_gc rfl T.c_MOST_CAPACITY) (nomark _))))) (pss_one (ps_ret (pe_lst (pa_cons (pe_gc rfl T.c_INVALID) pa_nil)))) pss_nil) (pss_cons (ps_if (pt_cmpR op_notN (pe_c k_link_between hr (by decide) rfl (pa_cons (pv 0) (pa_cons (pv 1) (pa_cons (pv 2) pa_nil)))) pe_non (nomark _)) (pss_one (ps_ret (pe_lst (pa_cons (pe_gc rfl T.c_TAKEN) pa_nil)))) pss_nil) (pss_cons (ps_if (pt_cmpR op_ge (pe_callB call_len_seq (by rfl) T.b_len PySem.boot_len (pa_cons (pe_fld (pv 0) rfl) pa_nil)) (pe_gc rfl T.c_MOST_LINKS) (nomark _)) (pss_one (ps_ret (pe_lst (pa_cons (pe_gc rfl T.c_LIMIT_REACHED) pa_nil)))) pss_nil) (pss_cons (ps_expr (pe_bm PySem.F.plainAttrs_list PySem.F.slot_list_append PySem.F.type_list_append mt_append (pe_fld (pv 0) rfl) (pa_cons (pe_mk m_Link hr (by decide) rfl (pa_cons (pv 1) (pa_cons (pv 2) (pa_cons (pv 3) pa_nil)))) pa_nil))) (pss_one (ps_ret (pe_lst (pa_cons (pe_op op_sub (pe_callB call_len_seq (by rfl) T.b_len PySem.boot_len (pa_cons (pe_fld (pv 0) rfl) pa_nil)) pe_int) pa_nil))))))))), ?_⟩
    have hc := n.hold
    refine q_when (b := (!decide (u < c.n)) || !decide (v < c.n)) (et_or (et_not (et_B (ev_call (ea_cons (ev_var rfl) (ea_cons (ev_var rfl) ea_nil)) (use_has_node hc)))) fun _ => et_not (et_B (ev_call (ea_cons (ev_var rfl) (ea_cons (ev_var rfl) ea_nil)) (use_has_node hc)))) (fun hb H1 e1 => ?_) (fun hb H1 e1 => ?_)
    · refine s_code (k.err n e1 (code := -2) (if_pos ?_))
      rw [Bool.or_eq_true] at hb
      show c.n ≤ u ∨ c.n ≤ v
      rcases hb with hb | hb
      · exact .inl (by have z : ¬ u < c.n := (by simpa using hb); omega)
      · exact .inr (by have z : ¬ v < c.n := (by simpa using hb); omega)
    · rw [Bool.or_eq_false_iff] at hb
      have hu : u < c.n := by simpa using hb.1
      have hv : v < c.n := by simpa using hb.2
      have x1 : ¬ (c.spec.nodes ≤ u ∨ c.spec.nodes ≤ v) := by rw [spec_nodes]; omega
      refine q_when (b := decide (u = v) || decide (99 < cap)) (et_or (et_test (ev_eqN (ev_var rfl) (ev_var rfl))) fun _ => et_test (ev_gtN (ev_var rfl) (ev_nat 99))) (fun hb H2 e2 => ?_) (fun hb H2 e2 => ?_)
      · refine s_code (k.err n (e1.trans e2) (code := -22) ((if_neg x1).trans (if_pos ?_)))
        simpa using hb
      · have x2 : ¬ (u = v ∨ 99 < cap) := by simpa using hb
        refine q_when (b := (c.spec.linkBetween u v).isSome) (et_test (ev_is (ev_notN (ev_call (ea_cons (ev_var rfl) (ea_cons (ev_var rfl) (ea_cons (ev_var rfl) ea_nil))) (use_link_between (hc.mono (e1.trans e2))))) (congrArg V.bl (opt_notN _)))) (fun hb H3 e3 => ?_) (fun hb H3 e3 => ?_)
        · exact s_code (k.err n ((e1.trans e2).trans e3) (code := -17) ((if_neg x1).trans ((if_neg x2).trans (if_pos hb))))
        · have x3 : ¬ ((c.spec.linkBetween u v).isSome = true) := by rw [hb]; decide
          have ea := (e1.trans e2).trans e3
          have hc3 := hc.mono ea
          refine q_when (b := decide (10 ≤ c.links.length)) (et_test (ev_geN (ev_lenN' (K := K) (evN1 T hc3 (ev_var rfl)) (sq_of (NtC.hL hc3))) (ev_nat 10))) (fun hb H4 e4 => ?_) (fun hb H4 e4 => ?_)
          · refine s_code (k.err n (ea.trans e4) (code := -28) ((if_neg x1).trans ((if_neg x2).trans ((if_neg x3).trans (if_pos ?_)))))
            rw [spec_links_len]
            exact of_decide_eq_true hb
          · have hlt := of_decide_eq_false hb
            have x4 : ¬ (Su203.maxLinks ≤ c.spec.links.length) := by rw [spec_links_len]; exact hlt
            have hc4 := hc3.mono e4
            have ea4 := ea.trans e4
            refine q_appN (xs := c.lrefs) (NtC.hL hc4) (evN1 T hc4 (ev_var rfl)) (new_Link (u := u) (v := v) (c := cap) (ea_cons (ev_var rfl) (ea_cons (ev_var rfl) (ea_cons (ev_var rfl) ea_nil)))) (by rw [List.length_map]; omega) fun x H5 H6 e5 nx e6 hx => ?_
            obtain ⟨dx, hx⟩ := hx
            have e45 : Ex H H5 := ea4.trans e5
            have xk : x ∉ c.keys A := (hc.mono e45).fresh nx
            have o6 : Net A H6 c := n.ex (e45.trans e6)
            have xla : x ≠ c.la := fun z => xk (by rw [z]; exact .tail _ (.head _))
            let l : LkC := ⟨x, dx, u, v, cap⟩
            let c' : NtC := { c with links := c.links ++ [l] }
            have pm : List.Perm ((x, HO.ins A.cLink dx l.fs) :: (c.a, HO.ins A.cNetwork c.dx c.fs) :: (c.la, HO.lst (c.lrefs ++ [.ref x])) :: (c.fa, HO.lst c.frefs) :: (c.sa, HO.lst (nats c.asg)) :: (c.links.map (LkC.cell A) ++ c.flows.flatMap (FlC.cells A))) (c'.cells A) := by
              show List.Perm _ ((c.a, _) :: (c.la, HO.lst ((c.links ++ [l]).map fun l => V.ref l.a)) :: (c.fa, _) :: (c.sa, _) :: ((c.links ++ [l]).map (LkC.cell A) ++ c.flows.flatMap (FlC.cells A)))
              rw [List.map_append, List.map_append, List.append_assoc]
              exact (List.perm_middle (l₁ := (c.a, _) :: (c.la, _) :: (c.fa, _) :: (c.sa, _) :: c.links.map (LkC.cell A))).symm
            have o7 : Net A (upd H6 c.la (.lst (c.lrefs ++ [.ref x]))) c' := by
              have p1 := Own.put (c0 := [(c.a, .ins A.cNetwork c.dx c.fs)]) (o' := .lst (c.lrefs ++ [.ref x])) o6
              have p2 := p1.add (Own.one (a := x) (o := .ins A.cLink dx l.fs) (by rw [upd_ne xla]; exact hx)) (fun b hb z => by
                have hb' : b = x := by simpa using hb
                subst hb'
                exact xk z)
              exact p2.perm pm
            have kk : ∀ b, b ∈ c'.keys A ↔ b = x ∨ b ∈ c.keys A := fun b => ((pm.map (·.1)).mem_iff (a := b)).symm.trans List.mem_cons
            have len1 : Ev (tOp (rI0 fun i j => V.int (i - j)) (tCB (rLenS K) (tCons (tFld K (tVar 0) "links") tNil)) (tC (.int 1))) [some (.ref c.a), some (.int u), some (.int v), some (.int cap)] (upd H6 c.la (.lst (c.lrefs ++ [.ref x]))) (.int ((c.links.length : Nat) : Int)) := by
              have r := ev_subN (ev_lenN' (K := K) (evN1 T (c := c') o7.hold (ev_var (i := 0) (σ := [some (.ref c.a), some (.int u), some (.int v), some (.int cap)]) rfl)) (sq_of (NtC.hL o7.hold))) (ev_nat 1) (by show 1 ≤ (c.links ++ [l]).length; rw [List.length_append]; exact Nat.le_add_left _ _)
              rw [show c'.links.length - 1 = c.links.length by show (c.links ++ [l]).length - 1 = _; rw [List.length_append]; exact Nat.add_sub_cancel _ 1] at r
              exact r
            refine s_one len1 (k.go n o7 rfl (fun b hb => ?_) (fun b hb => ?_) (Frame.upd (.of_ex (e45.trans e6)) (.inl (.tail _ (.head _)))) (r := Su203.ok c.links.length []) ?_)
            · rcases (kk b).mp hb with rfl | hb
              · exact .inr (.inr (fresh_back e45 nx))
              · exact .inl hb
            · exact (kk b).mpr (.inr hb)
            · refine (if_neg x1).trans ((if_neg x2).trans ((if_neg x3).trans ((if_neg x4).trans ?_)))
              rw [spec_links_len]
              refine congrArg (fun z => (z, _)) ?_
              show (⟨c.n, c.links.map LkC.spec ++ [⟨u, v, cap⟩], _, _⟩ : Su203.Network) = ⟨c.n, (c.links ++ [l]).map LkC.spec, _, _⟩
              rw [List.map_append]
              rfl
/-! ### add_flow -/
def sp_add_flow (A : Adr) : Sp := fun vs H Q _ => ∃ (c : NtC) (s t d : Nat), vs = [.ref c.a, .int s, .int t, .int d] ∧ Net A H c ∧ c.asg.length ≤ 5 ∧ After A H c (.addFlow s t d) [] Q
theorem ok_add_flow (T : Txt K mg A) (k_has_node : Cal P w K mg base 1 "has_node" (sp_has_node A)) (m_Flow : Mak P w K mg base 1 "Flow" A.cFlow (sp_Flow A))
    {f : Addr} {fd : FuncData} (F : Fun K "add_flow" "add_flow" s_add_flow f fd) (g : mg "add_flow" = some (.ref f)) (b : Binds K fd ["network", "source", "destination", "demand"] []) : Cal P w K mg base 3 "add_flow" (sp_add_flow A) := by
  refine ⟨f, fd, _, [], F.ok sc_add_flow (fun vs H Q E h => ?_) (fun cdv A' outer s H vs Q E hr h => ?_), g, F.kp, b, .nil⟩
  · obtain ⟨c, u, v, cap, rfl, _⟩ := h
    rfl
  · obtain ⟨c, u, v, d, rfl, n, hal, k⟩ := h
    refine ⟨_, (pss_cons (ps_if (PW.pt (pw_or (pt_not (pt_val (pe_c k_has_node hr (by decide) rfl (pa_cons (pv 0) (pa_cons (pv 1) pa_nil))))) (pw_or1 (pt_not (pt_val (pe_c k_has_node hr (by decide) rfl (pa_cons (pv 0) (pa_cons (pv 2) pa_nil)))))))) (pss_one (ps_ret (pe_lst (pa_cons (pe_gc rfl T.c_MISSING) pa_nil)))) pss_nil) (pss_cons (ps_if (PW.pt (pw_or (pt_cmpR op_eq (pv 1) (pv 2) (nomark _)) (pw_or (pt_cmpR op_lt (pv 3) (pe_gc rfl T.c_LEAST_DEMAND) (nomark _)) (pw_or1 (pt_cmpR op_gt (pv 3) (pe_gc rfl T.c_MOST_DEMAND) (nomark _)))))) (pss_one (ps_ret (pe_lst (pa_cons (pe_gc rfl T.c_INVALID) pa_nil)))) pss_nil) (pss_cons (ps_if (pt_cmpR op_ge (pe_callB call_len_seq (by rfl) T.b_len PySem.boot_len (pa_cons (pe_fld (pv 0) rfl) pa_nil)) (pe_gc rfl T.c_MOST_FLOWS) (nomark _)) (pss_one (ps_ret (pe_lst (pa_cons (pe_gc rfl T.c_LIMIT_REACHED) pa_nil)))) pss_nil) (pss_cons (ps_expr (pe_bm PySem.F.plainAttrs_list PySem.F.slot_list_append PySem.F.type_list_append mt_append (pe_fld (pv 0) rfl) (pa_cons (pe_mk m_Flow hr (by decide) rfl (pa_cons (pv 1) (pa_cons (pv 2) (pa_cons (pv 3) pa_nil)))) pa_nil))) (pss_cons (ps_expr (pe_bm PySem.F.plainAttrs_list PySem.F.slot_list_append PySem.F.type_list_append mt_append (pe_fld (pv 0) rfl) (pa_cons pe_int pa_nil))) (pss_one (ps_ret (pe_lst (pa_cons (pe_op op_sub (pe_callB call_len_seq (by rfl) T.b_len PySem.boot_len (pa_cons (pe_fld (pv 0) rfl) pa_nil)) pe_int) pa_nil))))))))), ?_⟩
    have hc := n.hold
    refine q_when (b := (!decide (u < c.n)) || !decide (v < c.n)) (et_or (et_not (et_B (ev_call (ea_cons (ev_var rfl) (ea_cons (ev_var rfl) ea_nil)) (use_has_node hc)))) fun _ => et_not (et_B (ev_call (ea_cons (ev_var rfl) (ea_cons (ev_var rfl) ea_nil)) (use_has_node hc)))) (fun hb H1 e1 => ?_) (fun hb H1 e1 => ?_)
    · refine s_code (k.err n e1 (code := -2) (if_pos ?_))
      rw [Bool.or_eq_true] at hb
      show c.n ≤ u ∨ c.n ≤ v
      rcases hb with hb | hb
      · exact .inl (by have z : ¬ u < c.n := (by simpa using hb); omega)
      · exact .inr (by have z : ¬ v < c.n := (by simpa using hb); omega)
    · rw [Bool.or_eq_false_iff] at hb
      have hu : u < c.n := by simpa using hb.1
      have hv : v < c.n := by simpa using hb.2
      have x1 : ¬ (c.spec.nodes ≤ u ∨ c.spec.nodes ≤ v) := by rw [spec_nodes]; omega
      refine q_when (b := decide (u = v) || (decide (d < 1) || decide (99 < d))) (et_or (et_test (ev_eqN (ev_var rfl) (ev_var rfl))) fun _ => et_or (et_test (ev_ltN (ev_var rfl) (ev_nat 1))) fun _ => et_test (ev_gtN (ev_var rfl) (ev_nat 99))) (fun hb H2 e2 => ?_) (fun hb H2 e2 => ?_)
      · refine s_code (k.err n (e1.trans e2) (code := -22) ((if_neg x1).trans (if_pos ?_)))
        simpa using hb
      · have x2 : ¬ (u = v ∨ d = 0 ∨ 99 < d) := by simpa using hb
        have ea := e1.trans e2
        have hc3 := hc.mono ea
        refine q_when (b := decide (5 ≤ c.flows.length)) (et_test (ev_geN (ev_lenN' (K := K) (evN2 T hc3 (ev_var rfl)) (sq_of (NtC.hF hc3))) (ev_nat 5))) (fun hb H4 e4 => ?_) (fun hb H4 e4 => ?_)
        · refine s_code (k.err n (ea.trans e4) (code := -28) ((if_neg x1).trans ((if_neg x2).trans (if_pos ?_))))
          rw [spec_flows_len]
          exact of_decide_eq_true hb
        · have hlt := of_decide_eq_false hb
          have x4 : ¬ (Su203.maxFlows ≤ c.spec.flows.length) := by rw [spec_flows_len]; exact hlt
          have hc4 := hc3.mono e4
          have ea4 := ea.trans e4
          refine q_appN (xs := c.frefs) (NtC.hF hc4) (evN2 T hc4 (ev_var rfl)) (new_Flow (s := u) (t := v) (d := d) (ea_cons (ev_var rfl) (ea_cons (ev_var rfl) (ea_cons (ev_var rfl) ea_nil)))) (by rw [List.length_map]; omega) fun x H5 H6 e5 nx e6 hx => ?_
          obtain ⟨dx, pa, npa, nex, hpa, hx⟩ := hx
          have e45 : Ex H H5 := ea4.trans e5
          have xk : x ∉ c.keys A := (hc.mono e45).fresh nx
          have pk : pa ∉ c.keys A := (hc.mono e45).fresh npa
          have o6 : Net A H6 c := n.ex (e45.trans e6)
          have xfa : x ≠ c.fa := fun z => xk (by rw [z]; exact .tail _ (.tail _ (.head _)))
          have pfa : pa ≠ c.fa := fun z => pk (by rw [z]; exact .tail _ (.tail _ (.head _)))
          have xsa : x ≠ c.sa := fun z => xk (by rw [z]; exact .tail _ (.tail _ (.tail _ (.head _))))
          have psa : pa ≠ c.sa := fun z => pk (by rw [z]; exact .tail _ (.tail _ (.tail _ (.head _))))
          let l : FlC := ⟨x, dx, pa, u, v, d, []⟩
          let c' : NtC := { c with flows := c.flows ++ [l], asg := c.asg ++ [0] }
          -- network.assignment.append(0)
          have p1 := Own.put (c0 := [(c.a, .ins A.cNetwork c.dx c.fs), (c.la, .lst c.lrefs)]) (o' := .lst (c.frefs ++ [.ref x])) o6
          have hN7 : (upd H6 c.fa (.lst (c.frefs ++ [.ref x]))) c.a = some (.ins A.cNetwork c.dx c.fs) := p1.hold (c.a, _) (.head _)
          have hS7 : (upd H6 c.fa (.lst (c.frefs ++ [.ref x]))) c.sa = some (.lst (nats c.asg)) := p1.hold (c.sa, _) (.tail _ (.tail _ (.tail _ (.head _))))
          refine q_app (xs := nats c.asg) hS7 (ev_fld (ev_var rfl) hN7 T.kNetwork T.nNetwork_assignment c.f3) (ev_nat 0) (by rw [nats_len]; omega) fun H8 e8 => ?_
          have p2 := Own.put (c0 := [(c.a, .ins A.cNetwork c.dx c.fs), (c.la, .lst c.lrefs), (c.fa, .lst (c.frefs ++ [.ref x]))]) (o' := .lst (nats c.asg ++ [.int ((0 : Nat) : Int)])) (p1.ex e8)
          have hx9 : (upd H8 c.sa (.lst (nats c.asg ++ [.int ((0 : Nat) : Int)]))) x = some (.ins A.cFlow dx l.fs) := by
            rw [upd_ne xsa]
            exact e8 _ _ (by rw [upd_ne xfa]; exact hx)
          have hp9 : (upd H8 c.sa (.lst (nats c.asg ++ [.int ((0 : Nat) : Int)]))) pa = some (.lst []) := by
            rw [upd_ne psa]
            exact e8 _ _ (by rw [upd_ne pfa]; exact hpa)
          have pm : List.Perm ([(x, HO.ins A.cFlow dx l.fs), (pa, HO.lst [])] ++ ((c.a, HO.ins A.cNetwork c.dx c.fs) :: (c.la, HO.lst c.lrefs) :: (c.fa, HO.lst (c.frefs ++ [.ref x])) :: (c.sa, HO.lst (nats c.asg ++ [.int ((0 : Nat) : Int)])) :: (c.links.map (LkC.cell A) ++ c.flows.flatMap (FlC.cells A)))) (c'.cells A) := by
            show List.Perm _ ((c.a, _) :: (c.la, _) :: (c.fa, HO.lst ((c.flows ++ [l]).map fun l => V.ref l.a)) :: (c.sa, HO.lst (nats (c.asg ++ [0]))) :: (c.links.map (LkC.cell A) ++ (c.flows ++ [l]).flatMap (FlC.cells A)))
            unfold nats
            rw [List.map_append, List.map_append, List.flatMap_append, ← List.append_assoc]
            exact List.perm_append_comm
          have o9 : Net A (upd H8 c.sa (.lst (nats c.asg ++ [.int ((0 : Nat) : Int)]))) c' := by
            refine (p2.add (ns := [(x, HO.ins A.cFlow dx l.fs), (pa, HO.lst [])]) ⟨fun q hq => ?_, ?_⟩ fun b hb z => ?_).perm pm
            · simp only [List.mem_cons, List.not_mem_nil, or_false] at hq
              rcases hq with rfl | rfl
              · exact hx9
              · exact hp9
            · show [x, pa].Nodup
              simpa using nex.symm
            · have hb' : b = x ∨ b = pa := by simpa using hb
              rcases hb' with rfl | rfl
              · exact xk z
              · exact pk z
          have kk : ∀ b, b ∈ c'.keys A ↔ b = x ∨ b = pa ∨ b ∈ c.keys A := fun b => ((pm.map (·.1)).mem_iff (a := b)).symm.trans (List.mem_cons.trans (or_congr Iff.rfl List.mem_cons))
          have len1 : Ev (tOp (rI0 fun i j => V.int (i - j)) (tCB (rLenS K) (tCons (tFld K (tVar 0) "flows") tNil)) (tC (.int 1))) [some (.ref c.a), some (.int u), some (.int v), some (.int d)] (upd H8 c.sa (.lst (nats c.asg ++ [.int ((0 : Nat) : Int)]))) (.int ((c.flows.length : Nat) : Int)) := by
            have r := ev_subN (ev_lenN' (K := K) (evN2 T (c := c') o9.hold (ev_var (i := 0) (σ := [some (.ref c.a), some (.int u), some (.int v), some (.int d)]) rfl)) (sq_of (NtC.hF o9.hold))) (ev_nat 1) (by show 1 ≤ (c.flows ++ [l]).length; rw [List.length_append]; exact Nat.le_add_left _ _)
            rw [show c'.flows.length - 1 = c.flows.length by show (c.flows ++ [l]).length - 1 = _; rw [List.length_append]; exact Nat.add_sub_cancel _ 1] at r
            exact r
          refine s_one len1 (k.go n o9 rfl (fun b hb => ?_) (fun b hb => ?_) (Frame.upd (Frame.ex (Frame.upd (.of_ex (e45.trans e6)) (.inl (.tail _ (.tail _ (.head _))))) e8) (.inl (.tail _ (.tail _ (.tail _ (.head _)))))) (r := Su203.ok c.flows.length []) ?_)
          · rcases (kk b).mp hb with rfl | rfl | hb
            · exact .inr (.inr (fresh_back e45 nx))
            · exact .inr (.inr (fresh_back e45 npa))
            · exact .inl hb
          · exact (kk b).mpr (.inr (.inr hb))
          · refine (if_neg x1).trans ((if_neg x2).trans ((if_neg x4).trans ?_))
            rw [spec_flows_len]
            refine congrArg (fun z => (z, _)) ?_
            show (⟨c.n, _, c.flows.map FlC.spec ++ [⟨u, v, d, [], []⟩], c.asg ++ [0]⟩ : Su203.Network) = ⟨c.n, _, (c.flows ++ [l]).map FlC.spec, c.asg ++ [0]⟩
            rw [List.map_append]
            rfl
end
end Fm

set_option Elab.async false
set_option linter.all false
set_option maxRecDepth 100000
set_option maxHeartbeats 4000000
/-! place_flow, stop_flow, move_flow, set_capacity. -/
namespace Fm
open C8 (pe_c pe_mk pe_gc)
open PySem PySem.Spec PyProof.Rows L2 Evl FmS
section
variable {c : NtC} {i p : Nat}
theorem path_yes (h : decide (p < pathCount c i) = true) : ∃ g pp, c.flows[i]? = some g ∧ g.paths[p]? = some pp := by
  have h := of_decide_eq_true h
  unfold pathCount at h
  cases e : c.flows[i]? with
  | none =>
    rw [e] at h
    cases h
  | some g =>
    rw [e] at h
    exact ⟨g, g.paths[p], rfl, List.getElem?_eq_getElem h⟩
theorem path_no (h : decide (p < pathCount c i) = false) : c.spec.flows.length ≤ i ∨ (c.spec.flow i).pathLinks.length ≤ p := by
  have h := of_decide_eq_false h
  rw [spec_flows_len]
  by_cases hi : i < c.flows.length
  · have e := List.getElem?_eq_getElem hi
    unfold pathCount at h
    rw [e] at h
    rw [flow_of e, flen]
    exact .inr (Nat.not_lt.mp h)
  · exact .inl (Nat.not_lt.mp hi)
theorem path_ok {g : FlC} {pp : PaC} (hg : c.flows[i]? = some g) (hp : g.paths[p]? = some pp) : ¬ (c.spec.flows.length ≤ i ∨ (c.spec.flow i).pathLinks.length ≤ p) := by
  rw [spec_flows_len, flow_of hg, flen]
  have h1 := (List.getElem?_eq_some_iff.mp hg).1
  have h2 := (List.getElem?_eq_some_iff.mp hp).1
  omega
theorem asg_at {g : FlC} (o : SpOk c.spec) (hg : c.flows[i]? = some g) : c.asg[i]? = some (c.asg.getD i 0) := by
  have h1 := (List.getElem?_eq_some_iff.mp hg).1
  have h2 : i < c.asg.length := by rw [(fits_of o).1]; exact h1
  rw [List.getD_eq_getElem?_getD, List.getElem?_eq_getElem h2]
  rfl
end
section
variable {P : Program} {w : World} {K : PySem.W.Frag} {mg : Str → Option Value} {base : Heap} {A : Adr} {H H1 : Hp} {c : NtC}
theorem Net.asg (n : Net A H c) (s : List Nat) : Net A (upd H c.sa (.lst (nats s))) { c with asg := s } :=
  Own.put (c0 := [(c.a, .ins A.cNetwork c.dx c.fs), (c.la, .lst c.lrefs), (c.fa, .lst c.frefs)]) (o' := .lst (nats s)) n
theorem sa_key : c.sa ∈ c.keys A := .tail _ (.tail _ (.tail _ (.head _)))
/-- the assignment is written -/
theorem After.asg {op : Su203.Operation} {Q : VK} {s : List Nat} {r : Su203.Result} (k : After A H c op [] Q) (n : Net A H c) (e : Ex H H1)
    (h : Su203.execute c.spec op = ({ c.spec with assignment := s }, r)) : ∀ p H2, (upd H1 c.sa (.lst (nats s))) p = none → Ex (upd H1 c.sa (.lst (nats s))) H2 → H2 p = some (.lst (resV r)) → Q (.ref p) H2 :=
  k.go n (Net.asg (n.ex e) s) rfl (fun b hb => .inl hb) (fun b hb => hb) (Frame.upd (.of_ex e) (.inl sa_key)) h
/-! ### place_flow -/
def sp_place_flow (A : Adr) : Sp := fun vs H Q _ => ∃ (c : NtC) (i p : Nat), vs = [.ref c.a, .int i, .int p] ∧ Net A H c ∧ SpOk c.spec ∧ After A H c (.placeFlow i p) [] Q
theorem ok_place_flow (T : Txt K mg A) (k_has_path : Cal P w K mg base 2 "has_path" (sp_has_path A)) (k_loads_under : Cal P w K mg base 1 "loads_under" (sp_loads_under K A)) (k_has_room : Cal P w K mg base 1 "has_room" (sp_has_room K A))
    {f : Addr} {fd : FuncData} (F : Fun K "place_flow" "place_flow" s_place_flow f fd) (g : mg "place_flow" = some (.ref f)) (b : Binds K fd ["network", "flow", "path"] []) : Cal P w K mg base 3 "place_flow" (sp_place_flow A) := by
  refine ⟨f, fd, _, [], F.ok sc_place_flow (fun vs H Q E h => ?_) (fun cdv A' outer s H vs Q E hr h => ?_), g, F.kp, b, .nil⟩
  · obtain ⟨c, i, p, rfl, _⟩ := h
    rfl
  · obtain ⟨c, i, p, rfl, n, o, k⟩ := h
    refine ⟨_, (pss_cons (ps_if (pt_not (pt_val (pe_c k_has_path hr (by decide) rfl (pa_cons (pv 0) (pa_cons (pv 1) (pa_cons (pv 2) pa_nil)))))) (pss_one (ps_ret (pe_lst (pa_cons (pe_gc rfl T.c_MISSING) pa_nil)))) pss_nil) (pss_cons (ps_if (pt_cmpR op_gt (pe_ix ix_list (pe_fld (pv 0) rfl) (pv 1) (fun _ _ => rfl)) pe_int (nomark _)) (pss_one (ps_ret (pe_lst (pa_cons (pe_gc rfl T.c_TAKEN) pa_nil)))) pss_nil) (pss_cons (ps_set (i := 3) sc_place_flow.nd rfl (.inl rfl) (pe_ix ix_list (pe_fld (pv 0) rfl) (pv 1) (fun _ _ => rfl))) (pss_cons (ps_set (i := 4) sc_place_flow.nd rfl (.inl rfl) (pe_c k_loads_under hr (by decide) rfl (pa_cons (pv 0) (pa_cons (pe_fld (pv 0) rfl) pa_nil)))) (pss_cons (ps_if (pt_not (pt_val (pe_c k_has_room hr (by decide) rfl (pa_cons (pv 0) (pa_cons (pv 4) (pa_cons (pe_fld (pe_ix ix_list (pe_fld (pv 3) rfl) (pv 2) (fun _ _ => rfl)) rfl) (pa_cons (pe_fld (pv 3) rfl) pa_nil))))))) (pss_one (ps_ret (pe_lst (pa_cons (pe_gc rfl T.c_NO_ROOM) pa_nil)))) pss_nil) (pss_cons (ps_asg (pe_op op_add (pv 2) pe_int) (pg_sub (pe_fld (pv 0) rfl) (pv 1) set_list)) (pss_one (ps_ret (pe_lst (pa_cons (pe_fld (pv 3) rfl) pa_nil)))))))))), ?_⟩
    have hc := n.hold
    refine q_when (b := !decide (p < pathCount c i)) (et_not (et_B (ev_call (ea_cons (ev_var rfl) (ea_cons (ev_var rfl) (ea_cons (ev_var rfl) ea_nil))) (use_has_path hc)))) (fun hb H1 e1 => ?_) (fun hb H1 e1 => ?_)
    · exact s_code (k.err n e1 (code := -2) (if_pos (path_no (by simpa using hb))))
    · obtain ⟨g, pp, hg, hp⟩ := path_yes (c := c) (i := i) (p := p) (by simpa using hb)
      have x1 := path_ok (c := c) hg hp
      have hc1 := hc.mono e1
      have ha := asg_at o hg
      have hil : i < c.spec.flows.length := by rw [spec_flows_len]; exact (List.getElem?_eq_some_iff.mp hg).1
      have hsl : i < c.asg.length := (List.getElem?_eq_some_iff.mp ha).1
      refine q_when (b := decide (0 < c.asg.getD i 0)) (et_test (ev_gtN (ev_ixN (K := K) (evN3 T hc1 (ev_var rfl)) (ev_var rfl) (sq_of (NtC.hS hc1)) ha) (ev_nat 0))) (fun hb H2 e2 => ?_) (fun hb H2 e2 => ?_)
      · refine s_code (k.err n (e1.trans e2) (code := -17) ((if_neg x1).trans (if_pos ?_)))
        have := of_decide_eq_true hb
        show c.asg.getD i 0 ≠ 0
        omega
      · have h0 : c.asg.getD i 0 = 0 := by have := of_decide_eq_false hb; omega
        have x2 : ¬ (c.spec.assignment.getD i 0 ≠ 0) := fun z => z h0
        have hc2 := hc1.mono e2
        refine q_asg (ev_ixR (K := K) (evN2 T hc2 (ev_var rfl)) (ev_var rfl) (sq_of (NtC.hF hc2)) hg) fun H2' e2' => ?_
        have ea2 := (e1.trans e2).trans e2'
        refine q_asgL (el_call (ea_cons (ev_var rfl) (ea_cons (evN3 T (hc.mono ea2) (ev_var rfl)) ea_nil)) (use_loads_under (kb := false) (hc.mono ea2) (sq_of (NtC.hS (hc.mono ea2))) (wf_of o) (fits_of o))) fun lo H3 nlo e3 hlo => ?_
        have ea := ea2.trans e3
        have hc3 := hc.mono ea
        have hf3 := NtC.hFl hc3 hg
        have hp3 := FlC.hPa hf3 hp
        have hus : c.spec.usedLinks i (p + 1) = pp.links := used_of hg hp
        have hlt : ∀ k ∈ pp.links, k < c.links.length := ((wf_of o).2.2 g (List.mem_of_getElem? hg)).lt pp (List.mem_of_getElem? hp)
        have feq : c.spec.isFeasible (c.asg.set i (p + 1)) = roomFor c c.asg pp.links g.d := by
          have r := place_iff (w := c.spec) (s := c.asg) (v := p + 1) hil hsl h0 o.feas (by rw [hus, spec_links_len]; exact hlt)
          rw [hus, flow_of hg] at r
          exact r
        have σe : Ev (tFld K (tOp (rIxL K) (tFld K (tVar 3) "paths") (tVar 2)) "links") [some (.ref c.a), some (.int i), some (.int p), some (.ref g.a), some (.ref lo)] H3 (.ref pp.la) := evP1 T hp3 (ev_ixR (K := K) (evF3 T hf3 (ev_var rfl)) (ev_var rfl) (sq_of (FlC.hP hf3)) hp)
        refine q_when (b := !roomFor c c.asg pp.links g.d) (et_not (et_B (ev_call (ea_cons (ev_var rfl) (ea_cons (ev_var rfl) (ea_cons σe (ea_cons (evF2 T hf3 (ev_var rfl)) ea_nil)))) (use_has_room hc3 (sq_of hlo) (sq_of (PaC.hL hp3)) hlt)))) (fun hb H4 e4 => ?_) (fun hb H4 e4 => ?_)
        · refine s_code (k.err n (ea.trans e4) (code := -33) ((if_neg x1).trans ((if_neg x2).trans (if_pos ?_))))
          show c.spec.isFeasible (c.asg.set i (p + 1)) = false
          rw [feq]
          simpa using hb
        · have x3 : ¬ (c.spec.isFeasible (c.spec.assignment.set i (p + 1)) = false) := by
            show ¬ (c.spec.isFeasible (c.asg.set i (p + 1)) = false)
            rw [feq]
            simpa using hb
          have hc4 := hc3.mono e4
          have ea4 := ea.trans e4
          refine q_setL (xs := nats c.asg) (j := i) (NtC.hS hc4) (ev_addN (ev_var rfl) (ev_nat 1)) (evN3 T hc4 (ev_var rfl)) (ev_var rfl) (by rw [nats_len]; exact hsl) fun H5 e5 => ?_
          rw [nats_set]
          have ea5 := ea4.trans e5
          have hf6 := NtC.hFl (Net.asg (n.ex ea5) (c.asg.set i (p + 1))).hold hg
          refine s_one (evF2 T hf6 (ev_var rfl)) (k.asg n ea5 (r := Su203.ok g.d []) ?_)
          refine (if_neg x1).trans ((if_neg x2).trans ((if_neg x3).trans ?_))
          rw [flow_of hg]
          rfl
/-! ### stop_flow -/
def sp_stop_flow (A : Adr) : Sp := fun vs H Q _ => ∃ (c : NtC) (i : Nat), vs = [.ref c.a, .int i] ∧ Net A H c ∧ SpOk c.spec ∧ After A H c (.stopFlow i) [] Q
theorem ok_stop_flow (T : Txt K mg A) (k_has_flow : Cal P w K mg base 1 "has_flow" (sp_has_flow A))
    {f : Addr} {fd : FuncData} (F : Fun K "stop_flow" "stop_flow" s_stop_flow f fd) (g : mg "stop_flow" = some (.ref f)) (b : Binds K fd ["network", "flow"] []) : Cal P w K mg base 3 "stop_flow" (sp_stop_flow A) := by
  refine ⟨f, fd, _, [], F.ok sc_stop_flow (fun vs H Q E h => ?_) (fun cdv A' outer s H vs Q E hr h => ?_), g, F.kp, b, .nil⟩
  · obtain ⟨c, i, rfl, _⟩ := h
    rfl
  · obtain ⟨c, i, rfl, n, o, k⟩ := h
    refine ⟨_, (pss_cons (ps_if (pt_not (pt_val (pe_c k_has_flow hr (by decide) rfl (pa_cons (pv 0) (pa_cons (pv 1) pa_nil))))) (pss_one (ps_ret (pe_lst (pa_cons (pe_gc rfl T.c_MISSING) pa_nil)))) pss_nil) (pss_cons (ps_set (i := 2) sc_stop_flow.nd rfl (.inl rfl) (pe_ix ix_list (pe_fld (pv 0) rfl) (pv 1) (fun _ _ => rfl))) (pss_cons (ps_if (pt_cmpR op_eq (pv 2) pe_int (nomark _)) (pss_one (ps_ret (pe_lst (pa_cons (pe_gc rfl T.c_INACTIVE) pa_nil)))) pss_nil) (pss_cons (ps_asg pe_int (pg_sub (pe_fld (pv 0) rfl) (pv 1) set_list)) (pss_one (ps_ret (pe_lst (pa_cons (pe_op op_sub (pv 2) pe_int) pa_nil)))))))), ?_⟩
    have hc := n.hold
    refine q_when (b := !decide (i < c.flows.length)) (et_not (et_B (ev_call (ea_cons (ev_var rfl) (ea_cons (ev_var rfl) ea_nil)) (use_has_flow hc)))) (fun hb H1 e1 => ?_) (fun hb H1 e1 => ?_)
    · refine s_code (k.err n e1 (code := -2) (if_pos ?_))
      rw [spec_flows_len]
      simpa using hb
    · have hi : i < c.flows.length := by simpa using hb
      have x1 : ¬ (c.spec.flows.length ≤ i) := by rw [spec_flows_len]; omega
      have hc1 := hc.mono e1
      have ha := asg_at o (List.getElem?_eq_getElem hi)
      have hsl : i < c.asg.length := (List.getElem?_eq_some_iff.mp ha).1
      refine q_asg (ev_ixN (K := K) (evN3 T hc1 (ev_var rfl)) (ev_var rfl) (sq_of (NtC.hS hc1)) ha) fun H2 e2 => ?_
      refine q_when (b := decide (c.asg.getD i 0 = 0)) (et_test (ev_eqN (ev_var rfl) (ev_nat 0))) (fun hb H3 e3 => ?_) (fun hb H3 e3 => ?_)
      · exact s_code (k.err n ((e1.trans e2).trans e3) (code := -6) ((if_neg x1).trans (if_pos (of_decide_eq_true hb))))
      · have h0 := of_decide_eq_false hb
        have ea := (e1.trans e2).trans e3
        have hc3 := hc.mono ea
        refine q_setL (xs := nats c.asg) (j := i) (NtC.hS hc3) (ev_nat 0) (evN3 T hc3 (ev_var rfl)) (ev_var rfl) (by rw [nats_len]; exact hsl) fun H4 e4 => ?_
        rw [nats_set]
        refine s_one (ev_subN (ev_var rfl) (ev_nat 1) (by omega)) (k.asg n (ea.trans e4) (r := Su203.ok (c.asg.getD i 0 - 1) []) ?_)
        exact (if_neg x1).trans (if_neg h0)
/-! ### move_flow -/
def sp_move_flow (A : Adr) : Sp := fun vs H Q _ => ∃ (c : NtC) (i p : Nat), vs = [.ref c.a, .int i, .int p] ∧ Net A H c ∧ SpOk c.spec ∧ After A H c (.moveFlow i p) [] Q
theorem depth_pairs : ∀ (l : List Mv), PyData.depthAll (l.map fun m => pairD m.1 (m.2 - 1 : Nat)) ≤ 1
  | [] => Nat.zero_le _
  | m :: l => by
    have h := depth_pairs l
    show max (PyData.depth (pairD m.1 (m.2 - 1 : Nat))) (PyData.depthAll (l.map fun m => pairD m.1 (m.2 - 1 : Nat))) ≤ 1
    exact Nat.max_le.mpr ⟨Nat.le_refl 1, h⟩
theorem lay_pairs : ∀ (l : List Mv), PyData.canLayAll0 (l.map fun m => pairD m.1 (m.2 - 1 : Nat)) = true
  | [] => rfl
  | m :: l => by
    show (PyData.canLay0 (pairD m.1 (m.2 - 1 : Nat)) && PyData.canLayAll0 (l.map fun m => pairD m.1 (m.2 - 1 : Nat))) = true
    rw [lay_pairs l]
    rfl
theorem shaped_pairs (l : List Mv) : SeqAt.shaped (.list (l.map fun m => pairD m.1 (m.2 - 1 : Nat))) = true := by
  have h := depth_pairs l
  unfold SeqAt.shaped
  rw [Bool.and_eq_true]
  refine ⟨lay_pairs l, decide_eq_true ?_⟩
  show PyData.depthAll (l.map fun m => pairD m.1 (m.2 - 1 : Nat)) + 1 ≤ 64
  omega
theorem dp_pairs {H : Hp} : ∀ (ts : List Addr) (ms : List Mv), ts.length = ms.length → (∀ (i : Nat) t m, ts[i]? = some t → ms[i]? = some m → H t = some (.tup [.int (m.1 : Nat), .int ((m.2 - 1 : Nat) : Int)])) → DpAll K H (ts.map V.ref) (ms.map fun m => pairD m.1 (m.2 - 1 : Nat))
  | [], [], _, _ => .nil
  | [], _ :: _, h, _ => by cases h
  | _ :: _, [], h, _ => by cases h
  | t :: ts, m :: ms, h, q => .cons (dp_pair (q 0 t m rfl rfl)) (dp_pairs ts ms (Nat.succ.inj h) fun i t' m' a b => q (i + 1) t' m' a b)
theorem any_pairs (ms : List Mv) (i p : Nat) (h0 : ∀ m ∈ ms, m.2 ≠ 0) : ((ms.map fun m => pairD m.1 (m.2 - 1 : Nat)).any fun z => PyData.eqv z (pairD i p)) = decide ((i, p + 1) ∈ ms) := by
  rw [Bool.eq_iff_iff, List.any_map, List.any_eq_true, decide_eq_true_eq]
  constructor
  · rintro ⟨m, hm, e⟩
    have e : PyData.eqv (pairD m.1 (m.2 - 1 : Nat)) (pairD i p) = true := e
    rw [eqv_pair, Bool.and_eq_true, beq_iff_eq, beq_iff_eq] at e
    have := h0 m hm
    have e2 : m = (i, p + 1) := Prod.ext e.1 (by show m.2 = p + 1; omega)
    rw [← e2]
    exact hm
  · intro h
    refine ⟨_, h, ?_⟩
    show PyData.eqv (pairD (i : Nat) ((p + 1 - 1 : Nat) : Int)) (pairD i p) = true
    rw [eqv_pair]
    simp
theorem ok_move_flow (T : Txt K mg A) (k_has_path : Cal P w K mg base 2 "has_path" (sp_has_path A)) (k_allowed_moves : Cal P w K mg base 3 "allowed_moves" (sp_allowed_moves K A))
    {f : Addr} {fd : FuncData} (F : Fun K "move_flow" "move_flow" s_move_flow f fd) (g : mg "move_flow" = some (.ref f)) (b : Binds K fd ["network", "flow", "path"] []) : Cal P w K mg base 4 "move_flow" (sp_move_flow A) := by
  refine ⟨f, fd, _, [], F.ok sc_move_flow (fun vs H Q E h => ?_) (fun cdv A' outer s H vs Q E hr h => ?_), g, F.kp, b, .nil⟩
  · obtain ⟨c, i, p, rfl, _⟩ := h
    rfl
  · obtain ⟨c, i, p, rfl, n, o, k⟩ := h
    refine ⟨_, (pss_cons (ps_if (pt_not (pt_val (pe_c k_has_path hr (by decide) rfl (pa_cons (pv 0) (pa_cons (pv 1) (pa_cons (pv 2) pa_nil)))))) (pss_one (ps_ret (pe_lst (pa_cons (pe_gc rfl T.c_MISSING) pa_nil)))) pss_nil) (pss_cons (ps_set (i := 3) sc_move_flow.nd rfl (.inl rfl) (pe_ix ix_list (pe_fld (pv 0) rfl) (pv 1) (fun _ _ => rfl))) (pss_cons (ps_if (pt_cmpR op_eq (pv 3) pe_int (nomark _)) (pss_one (ps_ret (pe_lst (pa_cons (pe_gc rfl T.c_INACTIVE) pa_nil)))) pss_nil) (pss_cons (ps_if (pt_cmpR op_eq (pv 3) (pe_op op_add (pv 2) pe_int) (nomark _)) (pss_one (ps_ret (pe_lst (pa_cons (pe_gc rfl T.c_TAKEN) pa_nil)))) pss_nil) (pss_cons (ps_if (pt_cmpR (op_notInD (hu65 hr)) (pe_tup (pa_cons (pv 1) (pa_cons (pv 2) pa_nil))) (pe_c k_allowed_moves hr (by decide) rfl (pa_cons (pv 0) (pa_cons (pe_fld (pv 0) rfl) pa_nil))) (by rfl)) (pss_one (ps_ret (pe_lst (pa_cons (pe_gc rfl T.c_NO_ROOM) pa_nil)))) pss_nil) (pss_cons (ps_asg (pe_op op_add (pv 2) pe_int) (pg_sub (pe_fld (pv 0) rfl) (pv 1) set_list)) (pss_one (ps_ret (pe_lst (pa_cons (pe_op op_sub (pv 3) pe_int) pa_nil)))))))))), ?_⟩
    have hc := n.hold
    refine q_when (b := !decide (p < pathCount c i)) (et_not (et_B (ev_call (ea_cons (ev_var rfl) (ea_cons (ev_var rfl) (ea_cons (ev_var rfl) ea_nil))) (use_has_path hc)))) (fun hb H1 e1 => ?_) (fun hb H1 e1 => ?_)
    · exact s_code (k.err n e1 (code := -2) (if_pos (path_no (by simpa using hb))))
    · obtain ⟨g, pp, hg, hp⟩ := path_yes (c := c) (i := i) (p := p) (by simpa using hb)
      have x1 := path_ok (c := c) hg hp
      have hc1 := hc.mono e1
      have ha := asg_at o hg
      have hsl : i < c.asg.length := (List.getElem?_eq_some_iff.mp ha).1
      refine q_asg (ev_ixN (K := K) (evN3 T hc1 (ev_var rfl)) (ev_var rfl) (sq_of (NtC.hS hc1)) ha) fun H2 e2 => ?_
      refine q_when (b := decide (c.asg.getD i 0 = 0)) (et_test (ev_eqN (ev_var rfl) (ev_nat 0))) (fun hb H3 e3 => ?_) (fun hb H3 e3 => ?_)
      · exact s_code (k.err n ((e1.trans e2).trans e3) (code := -6) ((if_neg x1).trans (if_pos (of_decide_eq_true hb))))
      · have h0 : ¬ c.asg.getD i 0 = 0 := of_decide_eq_false hb
        have x2 : ¬ (c.spec.assignment.getD i 0 = 0) := h0
        refine q_when (b := decide (c.asg.getD i 0 = p + 1)) (et_test (ev_eqN (ev_var rfl) (ev_addN (ev_var rfl) (ev_nat 1)))) (fun hb H4 e4 => ?_) (fun hb H4 e4 => ?_)
        · exact s_code (k.err n (((e1.trans e2).trans e3).trans e4) (code := -17) ((if_neg x1).trans ((if_neg x2).trans (if_pos (of_decide_eq_true hb)))))
        · have h1 : ¬ c.asg.getD i 0 = p + 1 := of_decide_eq_false hb
          have x3 : ¬ (c.spec.assignment.getD i 0 = p + 1) := h1
          have ea4 := ((e1.trans e2).trans e3).trans e4
          have hc4 := hc.mono ea4
          have h0m : ∀ m ∈ c.spec.moves c.asg, m.2 ≠ 0 := fun m hm => (can_parts.mp (mem_moves.mp hm).2).2.1
          have hmem : decide ((i, p + 1) ∈ c.spec.moves c.asg) = c.spec.canMove c.asg i (p + 1) := by
            rw [Bool.eq_iff_iff, decide_eq_true_eq, mem_moves]
            exact ⟨fun z => z.2, fun z => ⟨by rw [spec_flows_len]; exact (List.getElem?_eq_some_iff.mp hg).1, z⟩⟩
          refine q_when (b := !c.spec.canMove c.asg i (p + 1)) (et_test fun H5 e5 Q q => eu_tup (ea_cons (ev_var rfl) (ea_cons (ev_var rfl) ea_nil)) (by show 2 ≤ 100000; decide) H5 e5 _ fun t H6 nt e6 ht => em_call (ea_cons (ev_var rfl) (ea_cons (evN3 T hc4 (ev_var rfl)) ea_nil)) (use_allowed_moves (kb := false) hc4 (sq_of (NtC.hS hc4)) (wf_of o) (fits_of o)) H6 (e5.trans e6) _ fun mo ts H7 nmo e7 hm => ⟨pairD i p, (c.spec.moves c.asg).map fun m => pairD m.1 (m.2 - 1 : Nat), dp_pair (e7 _ _ ht), .lst (sq_of hm.1) (dp_pairs _ _ hm.2.1 hm.2.2), rfl, shaped_pairs _, by
            rw [any_pairs _ _ _ h0m, hmem]
            exact q H7 (e6.trans e7)⟩) (fun hb H7 e7 => ?_) (fun hb H7 e7 => ?_)
          · refine s_code (k.err n (ea4.trans e7) (code := -33) ((if_neg x1).trans ((if_neg x2).trans ((if_neg x3).trans (if_pos ?_)))))
            show c.spec.canMove c.asg i (p + 1) = false
            simpa using hb
          · have x4 : ¬ (c.spec.canMove c.spec.assignment i (p + 1) = false) := by
              show ¬ (c.spec.canMove c.asg i (p + 1) = false)
              simpa using hb
            have ea7 := ea4.trans e7
            have hc7 := hc.mono ea7
            refine q_setL (xs := nats c.asg) (j := i) (NtC.hS hc7) (ev_addN (ev_var rfl) (ev_nat 1)) (evN3 T hc7 (ev_var rfl)) (ev_var rfl) (by rw [nats_len]; exact hsl) fun H8 e8 => ?_
            rw [nats_set]
            refine s_one (ev_subN (ev_var rfl) (ev_nat 1) (by omega)) (k.asg n (ea7.trans e8) (r := Su203.ok (c.asg.getD i 0 - 1) []) ?_)
            exact (if_neg x1).trans ((if_neg x2).trans ((if_neg x3).trans (if_neg x4)))
end
end Fm

set_option Elab.async false
set_option linter.all false
set_option maxRecDepth 100000
set_option maxHeartbeats 4000000
/-! set_capacity, add_path. -/
namespace Fm
open C8 (pe_c pe_mk pe_gc)
open PySem PySem.Spec PyProof.Rows L2 Evl FmS
theorem split_at {α : Type} : ∀ {l : List α} {i : Nat} {y : α}, l[i]? = some y → ∃ l1 l2, l = l1 ++ y :: l2 ∧ ∀ z, l.set i z = l1 ++ z :: l2
  | [], _, _, h => by simp at h
  | a :: r, 0, y, h => by
    have e : a = y := Option.some.inj h
    subst e
    exact ⟨[], r, rfl, fun z => rfl⟩
  | a :: r, i + 1, y, h => by
    obtain ⟨l1, l2, e, f⟩ := split_at (l := r) (i := i) (y := y) h
    exact ⟨a :: l1, l2, by rw [e]; rfl, fun z => by
      show a :: r.set i z = a :: (l1 ++ z :: l2)
      rw [f]⟩
section
variable {P : Program} {w : World} {K : PySem.W.Frag} {mg : Str → Option Value} {base : Heap} {A : Adr} {H H1 : Hp} {c : NtC}
/-! ### set_capacity -/
theorem Net.cap {i : Nat} {l : LkC} (n : Net A H c) (hl : c.links[i]? = some l) (cap : Nat) :
    Net A (upd H l.a (.ins A.cLink l.dx (LkC.fs { l with c := cap }))) { c with links := c.links.set i { l with c := cap } } ∧ NtC.keys A { c with links := c.links.set i { l with c := cap } } = c.keys A := by
  obtain ⟨l1, l2, e, f⟩ := split_at hl
  have e1 : c.cells A = ((c.a, HO.ins A.cNetwork c.dx c.fs) :: (c.la, .lst c.lrefs) :: (c.fa, .lst c.frefs) :: (c.sa, .lst (nats c.asg)) :: l1.map (LkC.cell A)) ++ (l.a, .ins A.cLink l.dx l.fs) :: (l2.map (LkC.cell A) ++ c.flows.flatMap (FlC.cells A)) := by
    show (c.a, _) :: (c.la, _) :: (c.fa, _) :: (c.sa, _) :: (c.links.map (LkC.cell A) ++ _) = _
    rw [e, List.map_append, List.map_cons, List.append_assoc]
    rfl
  have hr : ({ c with links := c.links.set i { l with c := cap } } : NtC).lrefs = c.lrefs := by
    show (c.links.set i { l with c := cap }).map _ = c.links.map _
    rw [f, e, List.map_append, List.map_append]
    rfl
  have e2 : NtC.cells A { c with links := c.links.set i { l with c := cap } } = ((c.a, HO.ins A.cNetwork c.dx c.fs) :: (c.la, .lst c.lrefs) :: (c.fa, .lst c.frefs) :: (c.sa, .lst (nats c.asg)) :: l1.map (LkC.cell A)) ++ (l.a, .ins A.cLink l.dx (LkC.fs { l with c := cap })) :: (l2.map (LkC.cell A) ++ c.flows.flatMap (FlC.cells A)) := by
    show (c.a, _) :: (c.la, HO.lst (NtC.lrefs { c with links := c.links.set i { l with c := cap } })) :: (c.fa, _) :: (c.sa, _) :: ((c.links.set i { l with c := cap }).map (LkC.cell A) ++ _) = _
    rw [hr, f, List.map_append, List.map_cons, List.append_assoc]
    rfl
  unfold Net at n ⊢
  unfold NtC.keys keysOf
  rw [e1] at n
  rw [e1, e2]
  refine ⟨Own.put n, ?_⟩
  rw [List.map_append, List.map_append]
  rfl
def sp_set_capacity (A : Adr) : Sp := fun vs H Q _ => ∃ (c : NtC) (i cap : Nat), vs = [.ref c.a, .int i, .int cap] ∧ Net A H c ∧ SpOk c.spec ∧ After A H c (.setCapacity i cap) [] Q
theorem load_of {c : NtC} {i : Nat} (h : i < c.links.length) : (loadsOf c c.asg)[i]? = some (c.spec.load c.spec.assignment i) := rowOf_get h
theorem cap_fs (l : LkC) (cap : Nat) : putF "capacity" (.int (cap : Int)) l.fs = LkC.fs { l with c := cap } := by
  unfold LkC.fs
  rw [putF_past (by decide +kernel), putF_past (by decide +kernel)]
  rfl
theorem ok_set_capacity (T : Txt K mg A) (k_has_link : Cal P w K mg base 1 "has_link" (sp_has_link A)) (k_loads_under : Cal P w K mg base 1 "loads_under" (sp_loads_under K A))
    {f : Addr} {fd : FuncData} (F : Fun K "set_capacity" "set_capacity" s_set_capacity f fd) (g : mg "set_capacity" = some (.ref f)) (b : Binds K fd ["network", "link", "capacity"] []) : Cal P w K mg base 3 "set_capacity" (sp_set_capacity A) := by
  refine ⟨f, fd, _, [], F.ok sc_set_capacity (fun vs H Q E h => ?_) (fun cdv A' outer s H vs Q E hr h => ?_), g, F.kp, b, .nil⟩
  · obtain ⟨c, i, p, rfl, _⟩ := h
    rfl
  · obtain ⟨c, i, cap, rfl, n, o, k⟩ := h
    refine ⟨_, (pss_cons (ps_if (pt_not (pt_val (pe_c k_has_link hr (by decide) rfl (pa_cons (pv 0) (pa_cons (pv 1) pa_nil))))) (pss_one (ps_ret (pe_lst (pa_cons (pe_gc rfl T.c_MISSING) pa_nil)))) pss_nil) (pss_cons (ps_if (pt_cmpR op_gt (pv 2) (pe_gc rfl T.c_MOST_CAPACITY) (nomark _)) (pss_one (ps_ret (pe_lst (pa_cons (pe_gc rfl T.c_INVALID) pa_nil)))) pss_nil) (pss_cons (ps_if (pt_cmpR op_lt (pv 2) (pe_ix ix_list (pe_c k_loads_under hr (by decide) rfl (pa_cons (pv 0) (pa_cons (pe_fld (pv 0) rfl) pa_nil))) (pv 1) (fun _ _ => rfl)) (nomark _)) (pss_one (ps_ret (pe_lst (pa_cons (pe_gc rfl T.c_NO_ROOM) pa_nil)))) pss_nil) (pss_cons (ps_set (i := 3) sc_set_capacity.nd rfl (.inl rfl) (pe_fld (pe_ix ix_list (pe_fld (pv 0) rfl) (pv 1) (fun _ _ => rfl)) rfl)) (pss_cons (ps_fld (pe_ix ix_list (pe_fld (pv 0) rfl) (pv 1) (fun _ _ => rfl)) (pv 2) rfl) (pss_one (ps_ret (pe_lst (pa_cons (pv 3) pa_nil))))))))), ?_⟩
    have hc := n.hold
    refine q_when (b := !decide (i < c.links.length)) (et_not (et_B (ev_call (ea_cons (ev_var rfl) (ea_cons (ev_var rfl) ea_nil)) (use_has_link hc)))) (fun hb H1 e1 => ?_) (fun hb H1 e1 => ?_)
    · refine s_code (k.err n e1 (code := -2) (if_pos ?_))
      rw [spec_links_len]
      simpa using hb
    · have hi : i < c.links.length := by simpa using hb
      have x1 : ¬ (c.spec.links.length ≤ i) := by rw [spec_links_len]; omega
      have gl := List.getElem?_eq_getElem hi
      generalize c.links[i] = l at gl
      refine q_when (b := decide (99 < cap)) (et_test (ev_gtN (ev_var rfl) (ev_nat 99))) (fun hb H2 e2 => ?_) (fun hb H2 e2 => ?_)
      · exact s_code (k.err n (e1.trans e2) (code := -22) ((if_neg x1).trans (if_pos (of_decide_eq_true hb))))
      · have x2 := of_decide_eq_false hb
        have ea := e1.trans e2
        have hc2 := hc.mono ea
        refine q_when (b := decide (cap < c.spec.load c.spec.assignment i)) (et_test (ev_is (ev_op (x := .int cap) (y := .int (c.spec.load c.spec.assignment i : Nat)) (z := .bl (decide ((cap : Int) < ((c.spec.load c.spec.assignment i : Nat) : Int)))) (ev_var rfl) (ev_opL1 (el_call (ea_cons (ev_var rfl) (ea_cons (evN3 T hc2 (ev_var rfl)) ea_nil)) (use_loads_under (kb := false) hc2 (sq_of (NtC.hS hc2)) (wf_of o) (fits_of o))) (fun H3 e3 => ev_var rfl) (fun p H3 hp e3 => rv_ixL (sq_of hp) (atI_nat (nats_get (load_of hi))))) rv_I0) (congrArg V.bl (dec_ltI _ _)))) (fun hb H3 e3 => ?_) (fun hb H3 e3 => ?_)
        · exact s_code (k.err n (ea.trans e3) (code := -33) ((if_neg x1).trans ((if_neg x2).trans (if_pos (of_decide_eq_true hb)))))
        · have x3 := of_decide_eq_false hb
          have ea3 := ea.trans e3
          have hc3 := hc.mono ea3
          refine q_asg (evL2 T (NtC.hLk hc3 gl) (ev_ixR (K := K) (evN1 T hc3 (ev_var rfl)) (ev_var rfl) (sq_of (NtC.hL hc3)) gl)) fun H4 e4 => ?_
          have ea4 := ea3.trans e4
          have hc4 := hc.mono ea4
          refine q_fld (ev_var rfl) (ev_ixR (K := K) (evN1 T hc4 (ev_var rfl)) (ev_var rfl) (sq_of (NtC.hL hc4)) gl) (NtC.hLk hc4 gl) T.kLink T.nLink_capacity (by show 3 < 1000; decide) fun H5 e5 => ?_
          rw [cap_fs]
          have ea5 := ea4.trans e5
          obtain ⟨n6, hk6⟩ := Net.cap (n.ex ea5) gl cap
          have lk : l.a ∈ c.keys A := by
            show l.a ∈ (c.cells A).map (·.1)
            exact List.mem_map.mpr ⟨l.cell A, .tail _ (.tail _ (.tail _ (.tail _ (List.mem_append_left _ (List.mem_map_of_mem (List.mem_of_getElem? gl)))))), rfl⟩
          refine s_one (ev_var rfl) (k.go n n6 rfl (fun b hb => .inl (by rw [hk6] at hb; exact hb)) (fun b hb => by rw [hk6]; exact hb) (Frame.upd (.of_ex ea5) (.inl lk)) (r := Su203.ok l.c []) ?_)
          refine (if_neg x1).trans ((if_neg x2).trans ((if_neg x3).trans ?_))
          rw [link_of gl]
          refine congrArg (fun z => (z, _)) ?_
          show (⟨c.n, (c.links.map LkC.spec).set i _, _, _⟩ : Su203.Network) = ⟨c.n, (c.links.set i { l with c := cap }).map LkC.spec, _, _⟩
          rw [List.map_set]
          rfl
/-! ### add_path -/
def natD (l : List Nat) : PyData := .list (l.map fun n => PyData.int ((n : Nat) : Int))
theorem dp_nats {H : Hp} : ∀ (l : List Nat), DpAll K H (nats l) (l.map fun n => PyData.int ((n : Nat) : Int))
  | [] => .nil
  | n :: r => .cons (.int _) (dp_nats r)
theorem eqv_nats : ∀ (a b : List Nat), PyData.eqvAll (a.map fun n => PyData.int ((n : Nat) : Int)) (b.map fun n => PyData.int ((n : Nat) : Int)) = (a == b)
  | [], [] => rfl
  | [], _ :: _ => rfl
  | _ :: _, [] => rfl
  | x :: a, y :: b => by
    show (((x : Int) == (y : Int)) && PyData.eqvAll _ _) = _
    rw [eqv_nats a b, cast_beq]
    rfl
theorem canLay_nats : ∀ (l : List Nat), PyData.canLayAll0 (l.map fun n => PyData.int ((n : Nat) : Int)) = true
  | [] => rfl
  | n :: r => by
    show (true && PyData.canLayAll0 _) = true
    rw [canLay_nats r]
    rfl
theorem depth_nats : ∀ (l : List Nat), PyData.depthAll (l.map fun n => PyData.int ((n : Nat) : Int)) = 0
  | [] => rfl
  | n :: r => by
    show max 0 (PyData.depthAll _) = 0
    rw [depth_nats r]
    rfl
theorem shaped_nats (l : List Nat) : SeqAt.shaped (natD l) = true := by
  unfold SeqAt.shaped natD
  rw [show PyData.canLay0 (.list (l.map fun n => PyData.int ((n : Nat) : Int))) = true from canLay_nats l]
  refine decide_eq_true ?_
  show PyData.depthAll _ + 1 ≤ 64
  rw [depth_nats]
  decide
theorem canLay_rows : ∀ (l : List (List Nat)), PyData.canLayAll0 (l.map natD) = true
  | [] => rfl
  | n :: r => by
    show (PyData.canLayAll0 _ && PyData.canLayAll0 _) = true
    rw [canLay_rows r, canLay_nats]
    rfl
theorem depth_rows : ∀ (l : List (List Nat)), PyData.depthAll (l.map natD) ≤ 1
  | [] => Nat.zero_le _
  | n :: r => by
    show max (PyData.depthAll _ + 1) (PyData.depthAll _) ≤ 1
    rw [depth_nats]
    exact Nat.max_le.mpr ⟨Nat.le_refl _, depth_rows r⟩
theorem shaped_rows (l : List (List Nat)) : SeqAt.shaped (.list (l.map natD)) = true := by
  unfold SeqAt.shaped
  rw [show PyData.canLay0 (.list (l.map natD)) = true from canLay_rows l]
  refine decide_eq_true ?_
  show PyData.depthAll _ + 1 ≤ 64
  have := depth_rows l
  omega
theorem any_rows (l : List (List Nat)) (ns : List Nat) : ((l.map natD).any fun z => PyData.eqv z (natD ns)) = l.contains ns := by
  rw [List.any_map, Bool.eq_iff_iff, List.any_eq_true, List.contains_iff_mem]
  constructor
  · rintro ⟨x, hx, e⟩
    have e' : PyData.eqvAll (x.map fun n => PyData.int ((n : Nat) : Int)) (ns.map fun n => PyData.int ((n : Nat) : Int)) = true := e
    rw [eqv_nats] at e'
    rw [← eq_of_beq e']
    exact hx
  · intro h
    refine ⟨ns, h, ?_⟩
    show PyData.eqvAll (ns.map fun n => PyData.int ((n : Nat) : Int)) (ns.map fun n => PyData.int ((n : Nat) : Int)) = true
    rw [eqv_nats]
    exact beq_self_eq_true ns
def addP (g : FlC) (pp : PaC) : FlC := { g with paths := g.paths ++ [pp] }
def withP (c : NtC) (i : Nat) (g : FlC) (pp : PaC) : NtC := { c with flows := c.flows.set i (addP g pp) }
theorem Net.path {i : Nat} {g : FlC} {pp : PaC} (n : Net A H c) (hg : c.flows[i]? = some g) (o : Own (upd H g.pa (.lst (g.prefs ++ [.ref pp.a]))) (pp.cells A)) (dis : ∀ b ∈ keysOf (pp.cells A), b ∉ c.keys A) :
    Net A (upd H g.pa (.lst (g.prefs ++ [.ref pp.a]))) (withP c i g pp) ∧ ∀ b, b ∈ (withP c i g pp).keys A ↔ b ∈ keysOf (pp.cells A) ∨ b ∈ c.keys A := by
  obtain ⟨f1, f2, e, f⟩ := split_at hg
  let hd : Cells := (c.a, HO.ins A.cNetwork c.dx c.fs) :: (c.la, .lst c.lrefs) :: (c.fa, .lst c.frefs) :: (c.sa, .lst (nats c.asg)) :: (c.links.map (LkC.cell A) ++ (f1.flatMap (FlC.cells A) ++ [(g.a, HO.ins A.cFlow g.dx g.fs)]))
  let tl : Cells := g.paths.flatMap (PaC.cells A) ++ f2.flatMap (FlC.cells A)
  have e1 : c.cells A = hd ++ (g.pa, .lst g.prefs) :: tl := by
    show (c.a, _) :: (c.la, _) :: (c.fa, _) :: (c.sa, _) :: (c.links.map (LkC.cell A) ++ c.flows.flatMap (FlC.cells A)) = (c.a, _) :: (c.la, _) :: (c.fa, _) :: (c.sa, _) :: ((c.links.map (LkC.cell A) ++ (f1.flatMap (FlC.cells A) ++ [(g.a, HO.ins A.cFlow g.dx g.fs)])) ++ (g.pa, .lst g.prefs) :: tl)
    rw [e, List.flatMap_append, List.flatMap_cons, List.append_assoc, List.append_assoc]
    rfl
  have hr : (withP c i g pp).frefs = c.frefs := by
    show (c.flows.set i (addP g pp)).map _ = c.flows.map _
    rw [f, e, List.map_append, List.map_append]
    rfl
  have hp : (addP g pp).prefs = g.prefs ++ [.ref pp.a] := by
    show (g.paths ++ [pp]).map _ = _
    rw [List.map_append]
    rfl
  have e2 : (withP c i g pp).cells A = hd ++ (g.pa, .lst (g.prefs ++ [.ref pp.a])) :: (g.paths.flatMap (PaC.cells A) ++ (pp.cells A ++ f2.flatMap (FlC.cells A))) := by
    show (c.a, _) :: (c.la, _) :: (c.fa, HO.lst (withP c i g pp).frefs) :: (c.sa, _) :: (c.links.map (LkC.cell A) ++ (c.flows.set i (addP g pp)).flatMap (FlC.cells A)) = (c.a, _) :: (c.la, _) :: (c.fa, _) :: (c.sa, _) :: ((c.links.map (LkC.cell A) ++ (f1.flatMap (FlC.cells A) ++ [(g.a, HO.ins A.cFlow g.dx g.fs)])) ++ (g.pa, .lst (g.prefs ++ [.ref pp.a])) :: (g.paths.flatMap (PaC.cells A) ++ (pp.cells A ++ f2.flatMap (FlC.cells A))))
    rw [hr, f, List.flatMap_append, List.flatMap_cons, List.append_assoc, List.append_assoc, ← hp]
    show _ = (c.a, _) :: (c.la, _) :: (c.fa, _) :: (c.sa, _) :: (c.links.map (LkC.cell A) ++ (f1.flatMap (FlC.cells A) ++ ((g.a, _) :: (g.pa, _) :: (g.paths.flatMap (PaC.cells A) ++ (pp.cells A ++ f2.flatMap (FlC.cells A))))))
    have e3 : (addP g pp).cells A = (g.a, HO.ins A.cFlow g.dx g.fs) :: (g.pa, HO.lst (addP g pp).prefs) :: (g.paths.flatMap (PaC.cells A) ++ pp.cells A) := by
      show (g.a, _) :: (g.pa, _) :: (g.paths ++ [pp]).flatMap (PaC.cells A) = _
      rw [List.flatMap_append, List.flatMap_cons, List.flatMap_nil, List.append_nil]
      rfl
    rw [e3, List.cons_append, List.cons_append, List.append_assoc]
    rfl
  have pm : List.Perm (pp.cells A ++ (hd ++ (g.pa, .lst (g.prefs ++ [.ref pp.a])) :: tl)) ((withP c i g pp).cells A) := by
    rw [e2]
    have q : List.Perm (pp.cells A ++ ((hd ++ (g.pa, HO.lst (g.prefs ++ [.ref pp.a])) :: g.paths.flatMap (PaC.cells A)) ++ f2.flatMap (FlC.cells A))) ((hd ++ (g.pa, HO.lst (g.prefs ++ [.ref pp.a])) :: g.paths.flatMap (PaC.cells A)) ++ (pp.cells A ++ f2.flatMap (FlC.cells A))) := by
      exact List.perm_append_comm_assoc _ _ _
    rw [List.append_assoc, List.append_assoc] at q
    exact q
  have kk : keysOf (hd ++ (g.pa, .lst (g.prefs ++ [.ref pp.a])) :: tl) = c.keys A := by
    unfold NtC.keys keysOf
    rw [e1, List.map_append, List.map_append]
    rfl
  unfold Net at n ⊢
  rw [e1] at n
  refine ⟨((Own.put (o' := .lst (g.prefs ++ [.ref pp.a])) n).add o (by rw [kk]; exact dis)).perm pm, fun b => ?_⟩
  rw [← kk, ← (pm.map (·.1)).mem_iff, List.map_append, List.mem_append]
def sp_add_path (A : Adr) : Sp := fun vs H Q _ => ∃ (c : NtC) (i : Nat) (na : Addr) (ns : List Nat), vs = [.ref c.a, .int i, .ref na] ∧ Net A H c ∧ SpOk c.spec ∧ H na = some (.lst (nats ns)) ∧ na ∉ c.keys A ∧ ns.length ≤ 8 ∧ After A H c (.addPath i ns) [na] Q
theorem ok_add_path (T : Txt K mg A) (k_has_flow : Cal P w K mg base 1 "has_flow" (sp_has_flow A)) (k_is_path_of : Cal P w K mg base 3 "is_path_of" (sp_is_path_of K A)) (k_links_along : Cal P w K mg base 2 "links_along" (sp_links_along K A)) (m_Path : Mak P w K mg base 1 "Path" A.cPath (sp_Path A))
    {f : Addr} {fd : FuncData} (F : Fun K "add_path" "add_path" s_add_path f fd) (g : mg "add_path" = some (.ref f)) (b : Binds K fd ["network", "flow", "nodes"] []) : Cal P w K mg base 4 "add_path" (sp_add_path A) := by
  refine ⟨f, fd, _, [], F.ok sc_add_path (fun vs H Q E h => ?_) (fun cdv A' outer s H vs Q E hr h => ?_), g, F.kp, b, .nil⟩
  · obtain ⟨c, i, na, ns, rfl, _⟩ := h
    rfl
  · obtain ⟨c, i, na, ns, rfl, n, o, hna, nak, hz, k⟩ := h
    refine ⟨_, (pss_cons (ps_if (pt_not (pt_val (pe_c k_has_flow hr (by decide) rfl (pa_cons (pv 0) (pa_cons (pv 1) pa_nil))))) (pss_one (ps_ret (pe_lst (pa_cons (pe_gc rfl T.c_MISSING) pa_nil)))) pss_nil) (pss_cons (ps_set (i := 3) sc_add_path.nd rfl (.inl rfl) (pe_ix ix_list (pe_fld (pv 0) rfl) (pv 1) (fun _ _ => rfl))) (pss_cons (ps_if (pt_not (pt_val (pe_c k_is_path_of hr (by decide) rfl (pa_cons (pv 0) (pa_cons (pv 3) (pa_cons (pv 2) pa_nil)))))) (pss_one (ps_ret (pe_lst (pa_cons (pe_gc rfl T.c_INVALID) pa_nil)))) pss_nil) (pss_cons (ps_if (pt_cmpR (op_inD (hu65 hr)) (pv 2) (pe_lc (te := tFld K (tVar 4) "nodes") (own := [("path", 4)]) rfl sc_add_path.nd (pi_list (pe_fld (pv 3) rfl)) (blkOk_by (own := [("path", 4)]) (N := N_add_path) (sc := defScope s_add_path) (by decide +kernel)) (fun _ _ _ _ _ => (pg_name (i := 4) sc_add_path.nd rfl (.inl rfl))) (fun _ _ _ _ _ => pts_nil) (fun _ _ _ _ _ => (pe_fld (pv 4) rfl))) (by rfl)) (pss_one (ps_ret (pe_lst (pa_cons (pe_gc rfl T.c_TAKEN) pa_nil)))) pss_nil) (pss_cons (ps_if (pt_cmpR op_ge (pe_callB call_len_seq (by rfl) T.b_len PySem.boot_len (pa_cons (pe_fld (pv 3) rfl) pa_nil)) (pe_gc rfl T.c_MOST_PATHS) (nomark _)) (pss_one (ps_ret (pe_lst (pa_cons (pe_gc rfl T.c_LIMIT_REACHED) pa_nil)))) pss_nil) (pss_cons (ps_expr (pe_bm PySem.F.plainAttrs_list PySem.F.slot_list_append PySem.F.type_list_append mt_append (pe_fld (pv 3) rfl) (pa_cons (pe_mk m_Path hr (by decide) rfl (pa_cons (pv 2) (pa_cons (pe_c k_links_along hr (by decide) rfl (pa_cons (pv 0) (pa_cons (pv 2) pa_nil))) pa_nil))) pa_nil))) (pss_one (ps_ret (pe_lst (pa_cons (pe_op op_sub (pe_callB call_len_seq (by rfl) T.b_len PySem.boot_len (pa_cons (pe_fld (pv 3) rfl) pa_nil)) pe_int) pa_nil)))))))))), ?_⟩
    have hc := n.hold
    refine q_when (b := !decide (i < c.flows.length)) (et_not (et_B (ev_call (ea_cons (ev_var rfl) (ea_cons (ev_var rfl) ea_nil)) (use_has_flow hc)))) (fun hb H1 e1 => ?_) (fun hb H1 e1 => ?_)
    · refine s_code (k.err n e1 (code := -2) (if_pos ?_))
      rw [spec_flows_len]
      simpa using hb
    · have hi : i < c.flows.length := by simpa using hb
      have x1 : ¬ (c.spec.flows.length ≤ i) := by rw [spec_flows_len]; omega
      have hg := List.getElem?_eq_getElem hi
      generalize c.flows[i] = g at hg
      have hc1 := hc.mono e1
      refine q_asg (ev_ixR (K := K) (evN2 T hc1 (ev_var rfl)) (ev_var rfl) (sq_of (NtC.hF hc1)) hg) fun H2 e2 => ?_
      have ea2 := e1.trans e2
      have hc2 := hc.mono ea2
      refine q_when (b := !c.spec.isPath i ns) (et_not (et_B (ev_call (ea_cons (ev_var rfl) (ea_cons (ev_var rfl) (ea_cons (ev_var rfl) ea_nil))) (use_is_path_of hc2 hg (sq_of (ea2 _ _ hna)) (by omega))))) (fun hb H3 e3 => ?_) (fun hb H3 e3 => ?_)
      · exact s_code (k.err n (ea2.trans e3) (code := -22) ((if_neg x1).trans (if_pos (by simpa using hb))))
      · have hip : c.spec.isPath i ns = true := by simpa using hb
        have x2 : ¬ (c.spec.isPath i ns = false) := by rw [hip]; decide
        have ea3 := ea2.trans e3
        have hf3 := NtC.hFl (hc.mono ea3) hg
        have gl3 : g.paths.length ≤ 3 := ((wf_of o).2.2 g (List.mem_of_getElem? hg)).few
        have hspec : (c.spec.flow i).pathNodes = g.paths.map (·.nodes) := by rw [flow_of hg]; rfl
        refine q_when (b := (c.spec.flow i).pathNodes.contains ns) (et_test ?_) (fun hb H4 e4 => ?_) (fun hb H4 e4 => ?_)
        · refine ev_opL (ev_var rfl) (el_lcL (xs := g.prefs) (fun _ => true) (fun j => .ref (g.paths.getD j ⟨0, 0, 0, 0, [], []⟩).na) (evF3 T hf3 (ev_var rfl)) (sq_of (FlC.hP hf3)) (by rw [List.length_map]; omega) (fun _ => rfl) (fun _ _ _ _ _ => et_yes) (fun j x H4 e4 hx _ => ?_)) fun p H4 hp e4 => ?_
          · obtain ⟨pj, hpj, rfl⟩ := refs_get hx
            rw [List.getD_eq_getElem?_getD, hpj]
            exact evP0 T (FlC.hPa (hf3.mono e4) hpj) (ev_var rfl)
          · rw [hspec, ← any_rows]
            refine rv_val fun H5 e5 Q q => ?_
            have e45 := e4.trans e5
            refine ⟨natD ns, (g.paths.map (·.nodes)).map natD, .lst (sq_of ((ea3.trans e45) _ _ hna)) (dp_nats ns), .lst (sq_of (e5 _ _ hp)) ?_, shaped_nats ns, shaped_rows _, q⟩
            rw [given_all, List.length_map]
            have : (List.range g.paths.length).map (fun j => V.ref (g.paths.getD j ⟨0, 0, 0, 0, [], []⟩).na) = g.paths.map fun q => V.ref q.na := by
              refine List.ext_getElem? fun j => ?_
              rw [List.getElem?_map, List.getElem?_map]
              by_cases hj : j < g.paths.length
              · rw [List.getElem?_range hj, List.getElem?_eq_getElem hj]
                show some (V.ref (g.paths.getD j _).na) = _
                rw [List.getD_eq_getElem?_getD, List.getElem?_eq_getElem hj]
                rfl
              · rw [List.getElem?_eq_none (by rw [List.length_range]; omega), List.getElem?_eq_none (by omega)]
                rfl
            rw [this]
            have hall : ∀ q ∈ g.paths, H5 q.na = some (.lst (nats q.nodes)) := fun q hq => by
              obtain ⟨j, hj⟩ := List.mem_iff_getElem?.mp hq
              exact PaC.hN (FlC.hPa (hf3.mono e45) hj)
            clear this
            generalize g.paths = ps at hall
            induction ps with
            | nil => exact .nil
            | cons q r ih => exact .cons (.lst (sq_of (hall q (.head _))) (dp_nats _)) (ih fun z hz => hall z (.tail _ hz))
        · exact s_code (k.err n (ea3.trans e4) (code := -17) ((if_neg x1).trans ((if_neg x2).trans (if_pos hb))))
        · have x3 : ¬ ((c.spec.flow i).pathNodes.contains ns = true) := by rw [hb]; decide
          have ea4 := ea3.trans e4
          have hf4 := NtC.hFl (hc.mono ea4) hg
          refine q_when (b := decide (3 ≤ g.paths.length)) (et_test (ev_geN (ev_lenN' (K := K) (evF3 T hf4 (ev_var rfl)) (sq_of (FlC.hP hf4))) (ev_nat 3))) (fun hb H5 e5 => ?_) (fun hb H5 e5 => ?_)
          · refine s_code (k.err n (ea4.trans e5) (code := -28) ((if_neg x1).trans ((if_neg x2).trans ((if_neg x3).trans (if_pos ?_)))))
            rw [flow_of hg, flen]
            exact of_decide_eq_true hb
          · have hlt := of_decide_eq_false hb
            have x4 : ¬ (Su203.maxPaths ≤ (c.spec.flow i).pathLinks.length) := by rw [flow_of hg, flen]; exact hlt
            have ea5 := ea4.trans e5
            have hc5 := hc.mono ea5
            have hf5 := NtC.hFl hc5 hg
            -- the links of the path
            obtain ⟨ks, hks⟩ : ∃ ks, c.spec.linksAlong ns = some ks := by
              cases e : c.spec.linksAlong ns with
              | none =>
                unfold Su203.Network.isPath at hip
                rw [e] at hip
                simp at hip
              | some ks => exact ⟨ks, rfl⟩
            have hkv : (pairsB c.spec ns).map optV = nats ks := by
              rw [along_some _ _ _ hks, List.map_map]
              rfl
            have evk := el_call (E := E0) (dvs := []) (sp := sp_links_along K A) (σ := [some (.ref c.a), some (.int i), some (.ref na), some (.ref g.a), none]) (ea_cons (ev_var (i := 0) rfl) (ea_cons (ev_var (i := 2) rfl) ea_nil)) (use_links_along hc5 (sq_of (ea5 _ _ hna)) (by omega))
            rw [hkv] at evk
            refine q_appN (xs := g.prefs) (FlC.hP hf5) (evF3 T hf5 (ev_var rfl)) (new_Path (ev_var rfl) evk) (by rw [List.length_map]; omega) fun x H6 H7 e6 nx e7 hx => ?_
            obtain ⟨dx, la, nla, lax, hla, hx⟩ := hx
            have ea6 := ea5.trans e6
            have ea7 := ea6.trans e7
            let pp : PaC := ⟨x, dx, na, la, ns, ks⟩
            have hc6 := hc.mono ea6
            have xk : x ∉ c.keys A := hc6.fresh nx
            have lk : la ∉ c.keys A := hc6.fresh nla
            have pak : g.pa ∈ c.keys A := by
              show g.pa ∈ (c.cells A).map (·.1)
              exact List.mem_map.mpr ⟨(g.pa, .lst g.prefs), .tail _ (.tail _ (.tail _ (.tail _ (List.mem_append_right _ (List.mem_flatMap.mpr ⟨g, List.mem_of_getElem? hg, .tail _ (.head _)⟩))))), rfl⟩
            have xp : x ≠ g.pa := fun z => xk (by rw [z]; exact pak)
            have lp : la ≠ g.pa := fun z => lk (by rw [z]; exact pak)
            have np : na ≠ g.pa := fun z => nak (by rw [z]; exact pak)
            have hna6 := ea6 _ _ hna
            have nxna : na ≠ x := ne_of_none hna6 nx
            have nlna : na ≠ la := ne_of_none hna6 nla
            have oP : Own (upd H7 g.pa (.lst (g.prefs ++ [.ref pp.a]))) (pp.cells A) := by
              refine ⟨fun q hq => ?_, ?_⟩
              · have hq' : q ∈ ([(x, HO.ins A.cPath dx pp.fs), (na, .lst (nats ns)), (la, .lst (nats ks))] : Cells) := hq
                simp only [List.mem_cons, List.not_mem_nil, or_false] at hq'
                rcases hq' with rfl | rfl | rfl
                · rw [upd_ne xp]
                  exact hx
                · rw [upd_ne np]
                  exact ea7 _ _ hna
                · rw [upd_ne lp]
                  exact hla
              · show ([x, na, la] : List Addr).Nodup
                simp only [List.nodup_cons, List.mem_cons, List.not_mem_nil, or_false, not_or, List.nodup_nil, and_true, not_false_eq_true]
                exact ⟨⟨nxna.symm, lax.symm⟩, nlna⟩
            have dis : ∀ b ∈ keysOf (pp.cells A), b ∉ c.keys A := fun b hb => by
              have hb' : b ∈ ([x, na, la] : List Addr) := hb
              simp only [List.mem_cons, List.not_mem_nil, or_false] at hb'
              rcases hb' with rfl | rfl | rfl
              · exact xk
              · exact nak
              · exact lk
            obtain ⟨n8, hk8⟩ := Net.path (n.ex ea7) hg oP dis
            have hf8 : Hold (upd H7 g.pa (.lst (g.prefs ++ [.ref pp.a]))) ((addP g pp).cells A) := NtC.hFl (c := withP c i g pp) (i := i) n8.hold (by
              show (c.flows.set i (addP g pp))[i]? = _
              rw [List.getElem?_set_self hi])
            have len1 : Ev (tOp (rI0 fun i j => V.int (i - j)) (tCB (rLenS K) (tCons (tFld K (tVar 3) "paths") tNil)) (tC (.int 1))) [some (.ref c.a), some (.int i), some (.ref na), some (.ref g.a), none] (upd H7 g.pa (.lst (g.prefs ++ [.ref pp.a]))) (.int ((g.paths.length : Nat) : Int)) := by
              have r := ev_subN (ev_lenN' (K := K) (evF3 T (f := addP g pp) hf8 (ev_var (i := 3) (σ := [some (.ref c.a), some (.int i), some (.ref na), some (.ref g.a), none]) rfl)) (sq_of (FlC.hP hf8))) (ev_nat 1) (by show 1 ≤ (g.paths ++ [pp]).length; rw [List.length_append]; exact Nat.le_add_left _ _)
              rw [show (addP g pp).paths.length - 1 = g.paths.length by show (g.paths ++ [pp]).length - 1 = _; rw [List.length_append]; exact Nat.add_sub_cancel _ 1] at r
              exact r
            refine s_one len1 (k.go n n8 rfl (fun b hb => ?_) (fun b hb => (hk8 b).mpr (.inr hb)) (Frame.upd (.of_ex ea7) (.inl pak)) (r := Su203.ok g.paths.length []) ?_)
            · rcases (hk8 b).mp hb with hb | hb
              · have hb' : b ∈ ([x, na, la] : List Addr) := hb
                simp only [List.mem_cons, List.not_mem_nil, or_false] at hb'
                rcases hb' with rfl | rfl | rfl
                · exact .inr (.inr (fresh_back ea6 nx))
                · exact .inr (.inl (.head _))
                · exact .inr (.inr (fresh_back ea6 nla))
              · exact .inl hb
            · refine (if_neg x1).trans ((if_neg x2).trans ((if_neg x3).trans ((if_neg x4).trans ?_)))
              rw [flow_of hg, flen, hks]
              refine congrArg (fun z => (z, _)) ?_
              show (⟨c.n, _, (c.flows.map FlC.spec).set i _, _⟩ : Su203.Network) = ⟨c.n, _, (c.flows.set i (addP g pp)).map FlC.spec, _⟩
              rw [List.map_set]
              congr 2
              unfold FlC.spec addP
              show _ = (⟨g.s, g.t, g.d, (g.paths ++ [pp]).map _, (g.paths ++ [pp]).map _⟩ : Su203.Flow)
              rw [List.map_append, List.map_append]
              rfl
end
end Fm

set_option Elab.async false
set_option linter.all false
set_option maxRecDepth 100000
set_option maxHeartbeats 4000000
/-! tell_link_loads, tell_assignment, create_network. -/
namespace Fm
open C8 (pe_c pe_mk pe_gc)
open PySem PySem.Spec PyProof.Rows L2 Evl FmS
section
variable {P : Program} {w : World} {K : PySem.W.Frag} {mg : Str → Option Value} {base : Heap} {A : Adr} {H H1 : Hp} {c : NtC}
def sp_tell_assignment (A : Adr) : Sp := fun vs H Q _ => ∃ (c : NtC), vs = [.ref c.a] ∧ Net A H c ∧ SpOk c.spec ∧ After A H c .assignment [] Q
theorem ok_tell_assignment (T : Txt K mg A) {f : Addr} {fd : FuncData} (F : Fun K "tell_assignment" "tell_assignment" s_tell_assignment f fd) (g : mg "tell_assignment" = some (.ref f)) (b : Binds K fd ["network"] []) : Cal P w K mg base 3 "tell_assignment" (sp_tell_assignment A) := by
  refine ⟨f, fd, _, [], F.ok sc_tell_assignment (fun vs H Q E h => ?_) (fun cdv A' outer s H vs Q E hr h => ?_), g, F.kp, b, .nil⟩
  · obtain ⟨c, rfl, _⟩ := h
    rfl
  · obtain ⟨c, rfl, n, o, k⟩ := h
    refine ⟨_, (pss_one (ps_ret (pe_op op_cat (pe_lst (pa_cons (pe_callB call_len_seq (by rfl) T.b_len PySem.boot_len (pa_cons (pe_fld (pv 0) rfl) pa_nil)) pa_nil)) (pe_fld (pv 0) rfl)))), ?_⟩
    have hc := n.hold
    have hal := (fits_of o).1
    have hfl := (wf_of o).2.1
    refine s_retL (el_catN (el_lst (ea_cons (ev_lenN' (K := K) (evN2 T hc (ev_var rfl)) (sq_of (NtC.hF hc))) ea_nil) (by show 1 ≤ 100000; decide)) (evN3 T hc (ev_var rfl)) (NtC.hS hc) (by rw [nats_len]; show 1 + _ ≤ _; omega)) fun p H2 hp e2 hl => ?_
    refine k.stay (r := Su203.okList c.asg) n (Ex.refl H) rfl p H2 hp e2 ?_
    rw [hl, ← hal]
    rfl
/-! ### tell_link_loads -/
def sp_tell_link_loads (A : Adr) : Sp := fun vs H Q _ => ∃ (c : NtC), vs = [.ref c.a] ∧ Net A H c ∧ SpOk c.spec ∧ After A H c .linkLoads [] Q
def loadRow (w : Su203.Network) (i : Nat) : List Nat := (List.range i).flatMap fun j => [w.load w.assignment j, (w.link j).capacity]
theorem loadRow_succ (w : Su203.Network) (i : Nat) : loadRow w (i + 1) = loadRow w i ++ [w.load w.assignment i, (w.link i).capacity] := by
  unfold loadRow
  rw [List.range_succ, List.flatMap_append]
  rfl
theorem loadRow_len (w : Su203.Network) (i : Nat) : (loadRow w i).length = 2 * i := by
  induction i with
  | zero => rfl
  | succ i ih =>
    rw [loadRow_succ, List.length_append, ih]
    show 2 * i + 2 = _
    omega
theorem nats_app (a b : List Nat) : nats a ++ nats b = nats (a ++ b) := by
  unfold nats
  rw [List.map_append]
theorem ok_tell_link_loads (T : Txt K mg A) (k_loads_under : Cal P w K mg base 1 "loads_under" (sp_loads_under K A)) {f : Addr} {fd : FuncData} (F : Fun K "tell_link_loads" "tell_link_loads" s_tell_link_loads f fd) (g : mg "tell_link_loads" = some (.ref f)) (b : Binds K fd ["network"] []) : Cal P w K mg base 3 "tell_link_loads" (sp_tell_link_loads A) := by
  refine ⟨f, fd, _, [], F.ok sc_tell_link_loads (fun vs H Q E h => ?_) (fun cdv A' outer s H vs Q E hr h => ?_), g, F.kp, b, .nil⟩
  · obtain ⟨c, rfl, _⟩ := h
    rfl
  · obtain ⟨c, rfl, n, o, k⟩ := h
    refine ⟨_, (pss_cons (ps_set (i := 1) sc_tell_link_loads.nd rfl (.inl rfl) (pe_lst (pa_cons (pe_callB call_len_seq (by rfl) T.b_len PySem.boot_len (pa_cons (pe_fld (pv 0) rfl) pa_nil)) pa_nil))) (pss_cons (ps_for PassesOwn.never rfl (pi_zip (by rfl) T.b_zip (pa_cons (pe_c k_loads_under hr (by decide) rfl (pa_cons (pv 0) (pa_cons (pe_fld (pv 0) rfl) pa_nil))) (pa_cons (pe_fld (pv 0) rfl) pa_nil))) (pg_tup rfl (pgs_cons (pg_name (i := 2) sc_tell_link_loads.nd rfl (.inl rfl)) (pgs_cons (pg_name (i := 3) sc_tell_link_loads.nd rfl (.inl rfl)) pgs_nil))) (pss_cons (ps_expr (pe_bm PySem.F.plainAttrs_list PySem.F.slot_list_append PySem.F.type_list_append mt_append (pv 1) (pa_cons (pv 2) pa_nil))) (pss_one (ps_expr (pe_bm PySem.F.plainAttrs_list PySem.F.slot_list_append PySem.F.type_list_append mt_append (pv 1) (pa_cons (pe_fld (pv 3) rfl) pa_nil)))))) (pss_one (ps_ret (pv 1))))), ?_⟩
    have hc := n.hold
    have hll := (wf_of o).1
    refine q_asgL (el_lst (ea_cons (ev_lenN' (K := K) (evN1 T hc (ev_var rfl)) (sq_of (NtC.hL hc))) ea_nil) (by show 1 ≤ 100000; decide)) fun to H1 nto e1 hto => ?_
    have hc1 := hc.mono e1
    refine q_forZn (b := c.la) (xs := nats (loadsOf c c.asg)) (ys := c.lrefs) (el_call (ea_cons (ev_var rfl) (ea_cons (evN3 T hc1 (ev_var rfl)) ea_nil)) (use_loads_under (kb := false) hc1 (sq_of (NtC.hS hc1)) (wf_of o) (fits_of o))) (evN1 T hc1 (ev_var rfl)) (sq_of (NtC.hL hc1))
      (fun a i σ' H' => (∃ y2 y3, σ' = [some (.ref c.a), some (.ref to), y2, y3]) ∧ Ex H H' ∧ H' a = some (.lst (nats (loadsOf c c.asg))) ∧ a ≠ to ∧ H' to = some (.lst (nats (c.links.length :: loadRow c.spec i))))
      (fun a H2 na e2 ha => ⟨⟨none, none, rfl⟩, e1.trans e2, ha, (ne_of_none hto na).symm, e2 _ _ hto⟩)
      (fun a i σ' H' p => ⟨sq_of p.2.2.1, sq_of (p.2.1 _ _ (NtC.hL hc))⟩) ?_ ?_
    · rintro a i x y σ' H' hx hy ⟨⟨y2, y3, rfl⟩, e2, ha, hne, hl⟩ H2 e3
      obtain ⟨l, hl', rfl⟩ := refs_get hy
      have hi : i < c.links.length := (List.getElem?_eq_some_iff.mp hl').1
      obtain ⟨m, hm, rfl⟩ := nats_at hx
      have em : m = c.spec.load c.spec.assignment i := Option.some.inj (hm.symm.trans (load_of hi))
      have hlen := loadRow_len c.spec i
      refine q_app (xs := nats (c.links.length :: loadRow c.spec i)) (e3 _ _ hl) (ev_var rfl) (ev_var rfl) (by rw [nats_len, List.length_cons]; omega) fun H4 e4 => ?_
      have eH4 := (e2.trans e3).trans e4
      have eH5 : Ex H (upd H4 to (.lst (nats (c.links.length :: loadRow c.spec i) ++ [.int (m : Int)]))) := Ex.mut eH4 nto
      refine s_app (xs := nats (c.links.length :: loadRow c.spec i) ++ [.int (m : Int)]) upd_same (ev_var rfl) (evL2 T (NtC.hLk (hc.mono eH5) hl') (ev_var rfl)) (by rw [List.length_append, nats_len, List.length_cons, List.length_singleton]; omega) fun H6 e6 => ?_
      refine ⟨⟨_, _, rfl⟩, Ex.mut (eH5.trans e6) nto, ?_, hne, ?_⟩
      · rw [upd_ne hne]
        refine e6 _ _ ?_
        rw [upd_ne hne]
        exact e4 _ _ (e3 _ _ ha)
      · rw [upd_same, loadRow_succ, link_of hl', ← em, ← List.cons_append, ← nats_app, List.append_assoc]
        rfl
    · rintro a σ' H' ⟨⟨y2, y3, rfl⟩, e2, ha, hne, hl⟩
      refine s_ret (ev_var rfl) fun H2 e3 => ?_
      refine k.stay (r := Su203.ok c.spec.links.length (loadRow c.spec c.spec.links.length)) n (Ex.refl H) rfl to H2 nto (e2.trans e3) ?_
      rw [e3 _ _ hl, nats_len, List.length_map, show (loadsOf c c.asg).length = c.links.length from rowOf_len _ _, Nat.min_self, spec_links_len]
      rfl
/-! ### create_network: the instance holds a network, or None -/
def instFs (v : V) : List (Str × V) := [("network", v)]
/-- the instance at ia, with its network -/
def InstAt (A : Adr) (H : Hp) (ia : Addr) (o : Option NtC) : Prop := match o with
  | none => ∃ dx, H ia = some (.ins A.cInstance dx (instFs .non))
  | some c => ∃ dx, H ia = some (.ins A.cInstance dx (instFs (.ref c.a))) ∧ Net A H c ∧ ia ∉ c.keys A
def sp_create_network (A : Adr) : Sp := fun vs H Q _ => ∃ (ia dx : Addr) (v : V) (m : Nat), vs = [.ref ia, .int m] ∧ H ia = some (.ins A.cInstance dx (instFs v)) ∧
  ((m < 2 ∨ 6 < m) → ∀ p H', Ex H H' → H p = none → H' p = some (.lst [.int (-22)]) → Q (.ref p) H') ∧
  (¬ (m < 2 ∨ 6 < m) → ∀ p H' c, Net A H' c → (∀ b ∈ c.keys A, H b = none) → c.spec = Su203.create m → H' ia = some (.ins A.cInstance dx (instFs (.ref c.a))) → Frame H H' [ia] → H p = none → p ∉ c.keys A → H' p = some (.lst [.int 0]) → Q (.ref p) H')
theorem ok_create_network (T : Txt K mg A) (m_Network : Mak P w K mg base 1 "Network" A.cNetwork (sp_Network A)) {f : Addr} {fd : FuncData} (F : Fun K "create_network" "create_network" s_create_network f fd) (g : mg "create_network" = some (.ref f)) (b : Binds K fd ["instance", "node_count"] []) : Cal P w K mg base 4 "create_network" (sp_create_network A) := by
  refine ⟨f, fd, _, [], F.ok sc_create_network (fun vs H Q E h => ?_) (fun cdv A' outer s H vs Q E hr h => ?_), g, F.kp, b, .nil⟩
  · obtain ⟨ia, dx, v, m, rfl, _⟩ := h
    rfl
  · obtain ⟨ia, dx, v, m, rfl, hi, k1, k2⟩ := h
    refine ⟨_, (pss_cons (ps_if (PW.pt (pw_or (pt_cmpR op_lt (pv 1) (pe_gc rfl T.c_LEAST_NODES) (nomark _)) (pw_or1 (pt_cmpR op_gt (pv 1) (pe_gc rfl T.c_MOST_NODES) (nomark _))))) (pss_one (ps_ret (pe_lst (pa_cons (pe_gc rfl T.c_INVALID) pa_nil)))) pss_nil) (pss_cons (ps_fld (pv 0) (pe_mk m_Network hr (by decide) rfl (pa_cons (pv 1) pa_nil)) rfl) (pss_one (ps_ret (pe_lst (pa_cons pe_int pa_nil)))))), ?_⟩
    refine q_when (b := decide (m < 2) || decide (6 < m)) (et_or (et_test (ev_ltN (ev_var rfl) (ev_nat 2))) fun _ => et_test (ev_gtN (ev_var rfl) (ev_nat 6))) (fun hb H1 e1 => ?_) (fun hb H1 e1 => ?_)
    · exact s_code fun p H2 hp e2 hl => k1 (by simpa using hb) p H2 (e1.trans e2) (fresh_back e1 hp) hl
    · have hb' : ¬ (m < 2 ∨ 6 < m) := by simpa using hb
      -- instance.network = Network(node_count)
      refine q_fldN (new_Network (n := m) (ea_cons (ev_var rfl) ea_nil)) (ev_var rfl) (e1 _ _ hi) T.kInstance T.nInstance_network (by show 1 < 1000; decide) fun x H2 H3 nx e2 hx e3 => ?_
      obtain ⟨c, rfl, hcs, nc, hk⟩ := hx
      have hik : ia ∉ c.keys A := fun z => by
        have := hk ia z
        rw [e1 _ _ hi] at this
        cases this
      have ep : putF "network" (.ref c.a) (instFs v) = instFs (.ref c.a) := if_pos rfl
      rw [ep]
      have n3 : Net A (upd H3 ia (.ins A.cInstance dx (instFs (.ref c.a)))) c := ⟨fun p hp => by
        rw [upd_ne (fun z => hik (by rw [← z]; exact List.mem_map_of_mem hp))]
        exact e3 _ _ (nc.hold p hp), nc.nd⟩
      refine s_one (ev_int (i := 0)) fun p H4 hp e4 hl => ?_
      have hpi : p ≠ ia := fun z => by
        rw [z, upd_same] at hp
        cases hp
      rw [upd_ne hpi] at hp
      refine k2 hb' p H4 c (n3.ex e4) (fun b hb => fresh_back e1 (hk b hb)) hcs (e4 _ _ upd_same) (Frame.ex (Frame.upd (.of_ex ((e1.trans e2).trans e3)) (.inl (.head _))) e4) (fresh_back ((e1.trans e2).trans e3) hp) ((nc.hold.mono e3).fresh hp) hl
end
end Fm

set_option Elab.async false
set_option linter.all false
set_option maxRecDepth 100000
set_option maxHeartbeats 4000000
/-! plan_to, plan_link_drain, plan_node_drain, drain_link. -/
namespace Fm
open C8 (pe_c pe_mk pe_gc)
open PySem PySem.Spec PyProof.Rows L2 Evl FmS
theorem planResult_eq (w : Su203.Network) (T : List (List Nat)) : w.planResult T = planR (w.plan T) := by
  unfold Su203.Network.planResult
  cases w.plan T <;> rfl
theorem upd_id {H : Hp} {a : Addr} {o : HO} (h : H a = some o) : upd H a o = H := by
  funext b
  by_cases e : b = a
  · rw [e, upd_same, h]
  · rw [upd_ne e]
/-- evaluates to a best plan, or None -/
def EvPl (te : TE) (σ : L2.St) (H : Hp) (w : Su203.Network) (T : List (List Nat)) : Prop := ∀ H1, Ex H H1 → ∀ Q : VK, RetPl w T H1 Q → te σ H1 Q
theorem RetPl.back {w : Su203.Network} {T : List (List Nat)} {H H' : Hp} {Q : VK} (h : RetPl w T H Q) (e : Ex H H') : RetPl w T H' Q := fun v o H2 e2 => h v o H2 (e.trans e2)
theorem plan_is {w : Su203.Network} {T : List (List Nat)} {p : Option (List Mv)} (o : SpOk w) (hT : ∀ t ∈ T, Cand w t) (nd : T.Nodup) (hn : p = none → ∀ q, Valid w w.assignment q → run w.assignment q ∉ T) (hs : ∀ ms, p = some ms → Best w T w.assignment ms) : w.plan T = p := by
  cases p with
  | none => exact (plan_none o hT nd).mpr (hn rfl)
  | some ms => exact (plan_some o hT nd).mpr (hs ms rfl)
section
variable {K : PySem.W.Frag} {σ : L2.St} {H H' : Hp} {te tf : TE} {D : Ends} {tz : TS} {A : Adr}
/-- return tell_plan(..) -/
theorem s_tellPlan {w : Su203.Network} {T : List (List Nat)} (h : EvPl tf σ H w T) (o : SpOk w) (hT : ∀ t ∈ T, Cand w t) (nd : T.Nodup) (k : ∀ p H2, H p = none → Ex H H2 → H2 p = some (.lst (resV (w.planResult T))) → D.rt (.ref p) H2) : tRet (tCall (sp_tell_plan A) [] E0 (tCons tf tNil)) D σ H :=
  h H (Ex.refl H) _ fun v p H2 e2 pv hl hn hs => by
    show sp_tell_plan A ([v] ++ []) H2 D.rt E0
    rw [List.append_nil]
    refine ⟨v, p, rfl, pv, fun ms e => Nat.le_trans (hl ms e) (by decide), fun q H3 hq e3 h3 => k q H3 (fresh_back e2 hq) (e2.trans e3) ?_⟩
    rw [planResult_eq, plan_is o hT nd hn hs]
    exact h3
theorem q_asgPl {w : Su203.Network} {T : List (List Nat)} {i : Nat} (h : EvPl te σ H w T) (k : ∀ v p H2, Ex H H2 → PlanV H2 v p → (∀ ms, p = some ms → ms.length ≤ 243) → (p = none → ∀ q, Valid w w.assignment q → run w.assignment q ∉ T) → (∀ ms, p = some ms → Best w T w.assignment ms) → tz D (σ.set i (some v)) H2) : tSeq (tAsg te (gName i)) tz D σ H := h H (Ex.refl H) _ k
/-- find_drain(network, links), links made on the way -/
theorem epl_find {c : NtC} {t1 t2 : TE} {ks : List Nat} {T : List (List Nat)} (h1 : Ev t1 σ H (.ref c.a)) (h2 : EvL t2 σ H (nats ks)) (hc : Hold H (c.cells A)) (o : SpOk c.spec) (hz : ks.length ≤ 1000) (hT : ∀ t, Cand c.spec t → (t ∈ T ↔ drained c.spec ks t = true)) : EvPl (tCall (sp_find_drain K A) [] E0 (tCons t1 (tCons t2 tNil))) σ H c.spec T := fun H1 e Q q =>
  h1 H1 e _ fun H2 e2 => h2 H2 (e.trans e2) _ fun p H3 _ e3 hp => by
    show sp_find_drain K A ([.ref c.a, .ref p] ++ []) H3 Q E0
    rw [List.append_nil]
    exact ⟨c, p, ks, T, rfl, hc.mono ((e.trans e2).trans e3), o, sq_of hp, hz, hT, q.back (e2.trans e3)⟩
/-- plans_from(network, current_assignment(network)).get(tuple(target)) -/
theorem epl_get {c : NtC} {tp ty : TE} {t : List Nat} (h : EvP tp σ H c.spec c.asg) (hy : EvU ty σ H (nats t)) : EvPl (tDGet1 tp ty) σ H c.spec [t] := fun H1 e Q q =>
  h H1 e _ fun d l H2 nd e2 hd hen bf few fp => ⟨d, rfl, .inr ⟨_, .inl hd⟩, hy H2 (e.trans e2) _ fun b H3 nb e3 hb => by
    refine ⟨_, DGet.t (k := keyL t) (e3 _ _ hd) (by rw [nats_key]; exact hb), ?_⟩
    have nds : (l.map (·.s)).Nodup := by
      rw [← ents_keys]
      exact bf.nodup
    by_cases ht : t ∈ l.map (·.s)
    · obtain ⟨x, hx, rfl⟩ := List.mem_map.mp ht
      obtain ⟨i, hi⟩ := List.mem_iff_getElem?.mp hx
      rw [val_mem l nds x hx]
      refine q (.ref x.la) (some x.p) H3 (e2.trans e3) ⟨x.la, x.ts, rfl, (hen x hx).2.ex e3⟩ (fun ms z => ?_) (fun z => (by cases z)) fun ms z => ?_
      · cases z
        exact fp x hx
      · cases z
        refine bf.best (T := [x.s]) (i := i) (e := x.ent) (map_get hi) (.head _) fun j y hj hy z => ?_
        have ej : (ents l)[j]? = some y := hy
        have e1 : ((ents l).map (·.1))[j]? = some y.1 := map_get ej
        have e2 : ((ents l).map (·.1))[i]? = some x.s := map_get (map_get hi)
        rw [List.mem_singleton.mp z] at e1
        have := nd_ix bf.nodup e1 e2
        omega
    · rw [val_none l t ht]
      refine q .non none H3 (e2.trans e3) rfl (fun ms z => (by cases z)) (fun _ => bf.none fun y hy z => ?_) fun ms z => (by cases z)
      rw [← ents_keys] at ht
      exact ht (by rw [← List.mem_singleton.mp z]; exact List.mem_map_of_mem hy)⟩
end
theorem run_len (s : List Nat) (p : List Mv) : (FmS.run s p).length = s.length := by
  unfold FmS.run
  induction p generalizing s with
  | nil => rfl
  | cons m p ih =>
    show (p.foldl Su203.applyMove (Su203.applyMove s m)).length = _
    rw [ih]
    exact List.length_set
theorem run_take (s : List Nat) {p : List Mv} {j : Nat} {m : Mv} (h : p[j]? = some m) : run s (p.take (j + 1)) = Su203.applyMove (FmS.run s (p.take j)) m := by
  rw [List.take_add_one, h, run_append]
  rfl
theorem valid_mem {w : Su203.Network} : ∀ {p : List Mv} {s : List Nat}, Valid w s p → ∀ m ∈ p, m.1 < w.flows.length ∧ m.2 ≠ 0
  | [], _, _, m, h => (List.not_mem_nil h).elim
  | a :: p, s, v, m, h => by
    rcases List.mem_cons.mp h with rfl | h
    · obtain ⟨h1, h2⟩ := mem_moves.mp v.1
      exact ⟨h1, (can_parts.mp h2).2.1⟩
    · exact valid_mem v.2 m h
theorem drained_one (w : Su203.Network) (i : Nat) (t : List Nat) : drained w [i] t = !w.isUsed t i := by
  unfold drained
  rw [List.all_cons, List.all_nil, Bool.and_true]
theorem link_target {w : Su203.Network} (o : SpOk w) (i : Nat) (t : List Nat) (c : Cand w t) : t ∈ w.linkDrained i ↔ drained w [i] t = true := by
  unfold Su203.Network.linkDrained
  rw [List.mem_filter, drained_one]
  exact ⟨fun h => h.2, fun h => ⟨(mem_feasible o).mpr c, h⟩⟩
theorem node_target {w : Su203.Network} (o : SpOk w) (v : Nat) (t : List Nat) (c : Cand w t) : t ∈ w.nodeDrained v ↔ drained w (w.linksOfNode v) t = true := by
  unfold Su203.Network.nodeDrained drained
  rw [List.mem_filter]
  exact ⟨fun h => h.2, fun h => ⟨(mem_feasible o).mpr c, h⟩⟩
theorem form_not {w : Su203.Network} {t : List Nat} (h : formOk w t = false) : t.length ≠ w.flows.length ∨ (w.flowIndices.any (badAt w t)) = true := by
  unfold formOk at h
  rw [Bool.and_eq_false_iff] at h
  rcases h with h | h
  · exact .inl (of_decide_eq_false h)
  · exact .inr (by simpa using h)
theorem form_yes {w : Su203.Network} {t : List Nat} (h : formOk w t = true) : ¬ (t.length ≠ w.flows.length ∨ (w.flowIndices.any (badAt w t)) = true) := by
  unfold formOk at h
  rw [Bool.and_eq_true] at h
  obtain ⟨h1, h2⟩ := h
  have h2 : w.flowIndices.any (badAt w t) = false := by simpa using h2
  rintro (z | z)
  · exact z (of_decide_eq_true h1)
  · rw [h2] at z
    cases z
theorem form_cand {w : Su203.Network} {t : List Nat} (h : formOk w t = true) (hf : w.isFeasible t = true) : Cand w t := by
  unfold formOk at h
  rw [Bool.and_eq_true] at h
  obtain ⟨h1, h2⟩ := h
  have h2 : w.flowIndices.any (badAt w t) = false := by simpa using h2
  rw [List.any_eq_false] at h2
  have h3 : ∀ i, i < w.flows.length → badAt w t i = false := fun i hi => by simpa using h2 i (List.mem_range.mpr hi)
  refine ⟨of_decide_eq_true h1, fun i hi => ?_, fun i hi => ?_, hf⟩
  · have := h3 i hi
    unfold badAt at this
    rw [Bool.or_eq_false_iff] at this
    have q : (t.getD i 0 == 0) = (w.assignment.getD i 0 == 0) := by simpa using this.1
    rw [← beq_iff_eq (a := t.getD i 0), q, beq_iff_eq]
  · have := h3 i hi
    unfold badAt at this
    rw [Bool.or_eq_false_iff] at this
    exact Nat.not_lt.mp (of_decide_eq_false this.2)
theorem form_fits {c : NtC} {t : List Nat} (h : formOk c.spec t = true) : Fits c t := by
  unfold formOk at h
  rw [Bool.and_eq_true] at h
  obtain ⟨h1, h2⟩ := h
  have h2 : c.spec.flowIndices.any (badAt c.spec t) = false := by simpa using h2
  rw [List.any_eq_false] at h2
  refine ⟨by rw [of_decide_eq_true h1, spec_flows_len], fun i f hf => ?_⟩
  have hi : i < c.spec.flows.length := by rw [spec_flows_len]; exact (List.getElem?_eq_some_iff.mp hf).1
  have h3 : badAt c.spec t i = false := by simpa using h2 i (List.mem_range.mpr hi)
  unfold badAt at h3
  rw [Bool.or_eq_false_iff, flow_of hf, flen] at h3
  exact Nat.not_lt.mp (of_decide_eq_false h3.2)
section
variable {P : Program} {w : World} {K : PySem.W.Frag} {mg : Str → Option Value} {base : Heap} {A : Adr} {H H1 : Hp} {c : NtC}
/-! ### plan_to -/
def sp_plan_to (A : Adr) : Sp := fun vs H Q _ => ∃ (c : NtC) (ta : Addr) (t : List Nat), vs = [.ref c.a, .ref ta] ∧ Net A H c ∧ SpOk c.spec ∧ H ta = some (.lst (nats t)) ∧ After A H c (.planTo t) [] Q
theorem ok_plan_to (T : Txt K mg A) (k_is_target_form : Cal P w K mg base 1 "is_target_form" (sp_is_target_form K A)) (k_is_feasible : Cal P w K mg base 2 "is_feasible" (sp_is_feasible K A)) (k_tell_plan : Cal P w K mg base 2 "tell_plan" (sp_tell_plan A)) (k_plans_from : Cal P w K mg base 4 "plans_from" (sp_plans_from A)) (k_current_assignment : Cal P w K mg base 1 "current_assignment" (sp_current_assignment A))
    {f : Addr} {fd : FuncData} (F : Fun K "plan_to" "plan_to" s_plan_to f fd) (g : mg "plan_to" = some (.ref f)) (b : Binds K fd ["network", "target"] []) : Cal P w K mg base 6 "plan_to" (sp_plan_to A) := by
  refine ⟨f, fd, _, [], F.ok sc_plan_to (fun vs H Q E h => ?_) (fun cdv A' outer s H vs Q E hr h => ?_), g, F.kp, b, .nil⟩
  · obtain ⟨c, ta, t, rfl, _⟩ := h
    rfl
  · obtain ⟨c, ta, t, rfl, n, o, ht, k⟩ := h
    refine ⟨_, (pss_cons (ps_if (pt_not (pt_val (pe_c k_is_target_form hr (by decide) rfl (pa_cons (pv 0) (pa_cons (pv 1) pa_nil))))) (pss_one (ps_ret (pe_lst (pa_cons (pe_gc rfl T.c_INVALID) pa_nil)))) pss_nil) (pss_cons (ps_if (pt_not (pt_val (pe_c k_is_feasible hr (by decide) rfl (pa_cons (pv 0) (pa_cons (pv 1) pa_nil))))) (pss_one (ps_ret (pe_lst (pa_cons (pe_gc rfl T.c_INFEASIBLE) pa_nil)))) pss_nil) (pss_one (ps_ret (pe_c k_tell_plan hr (by decide) rfl (pa_cons (pe_dget1 (hu1 hr) (pe_c k_plans_from hr (by decide) rfl (pa_cons (pv 0) (pa_cons (pe_c k_current_assignment hr (by decide) rfl (pa_cons (pv 0) pa_nil)) pa_nil))) (pe_tupleOf (by rfl) T.b_tuple (pv 1)) ⟨rfl, rfl, rfl, rfl⟩) pa_nil)))))), ?_⟩
    have hc := n.hold
    have ex : Su203.execute c.spec (.planTo t) = if t.length ≠ c.spec.flows.length ∨ (c.spec.flowIndices.any (badAt c.spec t)) = true then (c.spec, Su203.error (-22)) else if c.spec.isFeasible t = false then (c.spec, Su203.error (-35)) else (c.spec, c.spec.planResult [t]) := rfl
    refine q_when (b := !formOk c.spec t) (et_not (et_B (ev_call (ea_cons (ev_var rfl) (ea_cons (ev_var rfl) ea_nil)) (use_is_target_form hc o (sq_of ht))))) (fun hb H1 e1 => ?_) (fun hb H1 e1 => ?_)
    · refine s_code (k.err n e1 (code := -22) ?_)
      rw [ex, if_pos (form_not (by simpa using hb))]
    · have hf : formOk c.spec t = true := by simpa using hb
      have x1 := form_yes hf
      refine q_when (b := !c.spec.isFeasible t) (et_not (et_B (ev_call (ea_cons (ev_var rfl) (ea_cons (ev_var rfl) ea_nil)) (use_is_feasible (kb := false) (hc.mono e1) (sq_of (e1 _ _ ht)) (wf_of o) (form_fits hf))))) (fun hb H2 e2 => ?_) (fun hb H2 e2 => ?_)
      · refine s_code (k.err n (e1.trans e2) (code := -35) ?_)
        rw [ex, if_neg x1, if_pos (by simpa using hb)]
      · have hfe : c.spec.isFeasible t = true := by simpa using hb
        have e02 := e1.trans e2
        have hc2 := hc.mono e02
        refine s_tellPlan (w := c.spec) (T := [t]) (epl_get (ep_callU (ev_var rfl) (eu_call (ea_cons (ev_var rfl) ea_nil) (use_current_assignment hc2)) fun p H3 e3 hp => use_plans_from (hc2.mono e3) o (wf_of o) hp (cand_asg o)) (eu_tupOf (ev_var rfl) (sq_of (e02 _ _ ht)))) o (fun x hx => by
          rw [List.mem_singleton.mp hx]
          exact form_cand hf hfe) (by simp) (k.stay n e02 ?_)
        rw [ex, if_neg x1, if_neg (by rw [hfe]; decide)]
/-! ### plan_link_drain, plan_node_drain -/
def sp_plan_link_drain (A : Adr) : Sp := fun vs H Q _ => ∃ (c : NtC) (i : Nat), vs = [.ref c.a, .int i] ∧ Net A H c ∧ SpOk c.spec ∧ After A H c (.planLinkDrain i) [] Q
theorem ok_plan_link_drain (T : Txt K mg A) (k_has_link : Cal P w K mg base 1 "has_link" (sp_has_link A)) (k_find_drain : Cal P w K mg base 5 "find_drain" (sp_find_drain K A)) (k_tell_plan : Cal P w K mg base 2 "tell_plan" (sp_tell_plan A))
    {f : Addr} {fd : FuncData} (F : Fun K "plan_link_drain" "plan_link_drain" s_plan_link_drain f fd) (g : mg "plan_link_drain" = some (.ref f)) (b : Binds K fd ["network", "link"] []) : Cal P w K mg base 6 "plan_link_drain" (sp_plan_link_drain A) := by
  refine ⟨f, fd, _, [], F.ok sc_plan_link_drain (fun vs H Q E h => ?_) (fun cdv A' outer s H vs Q E hr h => ?_), g, F.kp, b, .nil⟩
  · obtain ⟨c, i, rfl, _⟩ := h
    rfl
  · obtain ⟨c, i, rfl, n, o, k⟩ := h
    refine ⟨_, (pss_cons (ps_if (pt_not (pt_val (pe_c k_has_link hr (by decide) rfl (pa_cons (pv 0) (pa_cons (pv 1) pa_nil))))) (pss_one (ps_ret (pe_lst (pa_cons (pe_gc rfl T.c_MISSING) pa_nil)))) pss_nil) (pss_one (ps_ret (pe_c k_tell_plan hr (by decide) rfl (pa_cons (pe_c k_find_drain hr (by decide) rfl (pa_cons (pv 0) (pa_cons (pe_lst (pa_cons (pv 1) pa_nil)) pa_nil))) pa_nil))))), ?_⟩
    have hc := n.hold
    refine q_when (b := !decide (i < c.links.length)) (et_not (et_B (ev_call (ea_cons (ev_var rfl) (ea_cons (ev_var rfl) ea_nil)) (use_has_link hc)))) (fun hb H1 e1 => ?_) (fun hb H1 e1 => ?_)
    · refine s_code (k.err n e1 (code := -2) (if_pos ?_))
      rw [spec_links_len]
      simpa using hb
    · have hi : i < c.links.length := by simpa using hb
      have x1 : ¬ (c.spec.links.length ≤ i) := by rw [spec_links_len]; omega
      exact s_tellPlan (w := c.spec) (T := c.spec.linkDrained i) (epl_find (K := K) (ks := [i]) (ev_var rfl) (el_lst (ea_cons (ev_var rfl) ea_nil) (by show 1 ≤ 100000; decide)) (hc.mono e1) o (by show 1 ≤ 1000; decide) (link_target o i)) o (cand_linkDrained o) (nodup_linkDrained _ i) (k.stay n e1 (if_neg x1))
def sp_plan_node_drain (A : Adr) : Sp := fun vs H Q _ => ∃ (c : NtC) (v : Nat), vs = [.ref c.a, .int v] ∧ Net A H c ∧ SpOk c.spec ∧ After A H c (.planNodeDrain v) [] Q
theorem ok_plan_node_drain (T : Txt K mg A) (k_has_node : Cal P w K mg base 1 "has_node" (sp_has_node A)) (k_links_at : Cal P w K mg base 1 "links_at" (sp_links_at A)) (k_find_drain : Cal P w K mg base 5 "find_drain" (sp_find_drain K A)) (k_tell_plan : Cal P w K mg base 2 "tell_plan" (sp_tell_plan A))
    {f : Addr} {fd : FuncData} (F : Fun K "plan_node_drain" "plan_node_drain" s_plan_node_drain f fd) (g : mg "plan_node_drain" = some (.ref f)) (b : Binds K fd ["network", "node"] []) : Cal P w K mg base 6 "plan_node_drain" (sp_plan_node_drain A) := by
  refine ⟨f, fd, _, [], F.ok sc_plan_node_drain (fun vs H Q E h => ?_) (fun cdv A' outer s H vs Q E hr h => ?_), g, F.kp, b, .nil⟩
  · obtain ⟨c, i, rfl, _⟩ := h
    rfl
  · obtain ⟨c, v, rfl, n, o, k⟩ := h
    refine ⟨_, (pss_cons (ps_if (pt_not (pt_val (pe_c k_has_node hr (by decide) rfl (pa_cons (pv 0) (pa_cons (pv 1) pa_nil))))) (pss_one (ps_ret (pe_lst (pa_cons (pe_gc rfl T.c_MISSING) pa_nil)))) pss_nil) (pss_one (ps_ret (pe_c k_tell_plan hr (by decide) rfl (pa_cons (pe_c k_find_drain hr (by decide) rfl (pa_cons (pv 0) (pa_cons (pe_c k_links_at hr (by decide) rfl (pa_cons (pv 0) (pa_cons (pv 1) pa_nil))) pa_nil))) pa_nil))))), ?_⟩
    have hc := n.hold
    refine q_when (b := !decide (v < c.n)) (et_not (et_B (ev_call (ea_cons (ev_var rfl) (ea_cons (ev_var rfl) ea_nil)) (use_has_node hc)))) (fun hb H1 e1 => ?_) (fun hb H1 e1 => ?_)
    · refine s_code (k.err n e1 (code := -2) (if_pos ?_))
      rw [spec_nodes]
      simpa using hb
    · have hv : v < c.n := by simpa using hb
      have x1 : ¬ (c.spec.nodes ≤ v) := by rw [spec_nodes]; omega
      refine s_tellPlan (w := c.spec) (T := c.spec.nodeDrained v) (epl_find (K := K) (ks := c.spec.linksOfNode v) (ev_var rfl) (el_call (ea_cons (ev_var rfl) (ea_cons (ev_var rfl) ea_nil)) (use_links_at (hc.mono e1) (wf_of o))) (hc.mono e1) o ?_ (node_target o v)) o (cand_nodeDrained o) (nodup_nodeDrained _ v) (k.stay n e1 (if_neg x1))
      unfold Su203.Network.linksOfNode
      refine Nat.le_trans (List.length_filter_le _ _) ?_
      rw [List.length_range]
      have := o.lk
      omega
/-! ### drain_link -/
def sp_drain_link (A : Adr) : Sp := fun vs H Q _ => ∃ (c : NtC) (i : Nat), vs = [.ref c.a, .int i] ∧ Net A H c ∧ SpOk c.spec ∧ After A H c (.drainLink i) [] Q
theorem ok_drain_link (T : Txt K mg A) (k_has_link : Cal P w K mg base 1 "has_link" (sp_has_link A)) (k_find_drain : Cal P w K mg base 5 "find_drain" (sp_find_drain K A)) (k_tell_plan : Cal P w K mg base 2 "tell_plan" (sp_tell_plan A))
    {f : Addr} {fd : FuncData} (F : Fun K "drain_link" "drain_link" s_drain_link f fd) (g : mg "drain_link" = some (.ref f)) (b : Binds K fd ["network", "link"] []) : Cal P w K mg base 6 "drain_link" (sp_drain_link A) := by
  refine ⟨f, fd, _, [], F.ok sc_drain_link (fun vs H Q E h => ?_) (fun cdv A' outer s H vs Q E hr h => ?_), g, F.kp, b, .nil⟩
  · obtain ⟨c, i, rfl, _⟩ := h
    rfl
  · obtain ⟨c, i, rfl, n, o, k⟩ := h
    refine ⟨_, (pss_cons (ps_if (pt_not (pt_val (pe_c k_has_link hr (by decide) rfl (pa_cons (pv 0) (pa_cons (pv 1) pa_nil))))) (pss_one (ps_ret (pe_lst (pa_cons (pe_gc rfl T.c_MISSING) pa_nil)))) pss_nil) (pss_cons (ps_set (i := 2) sc_drain_link.nd rfl (.inl rfl) (pe_c k_find_drain hr (by decide) rfl (pa_cons (pv 0) (pa_cons (pe_lst (pa_cons (pv 1) pa_nil)) pa_nil)))) (pss_cons (ps_if (pt_cmpR op_notN (pv 2) pe_non (nomark _)) (pss_one (ps_for PassesOwn.never rfl (pi_list (pv 2)) (pg_tup rfl (pgs_cons (pg_name (i := 3) sc_drain_link.nd rfl (.inl rfl)) (pgs_cons (pg_name (i := 4) sc_drain_link.nd rfl (.inl rfl)) pgs_nil))) (pss_one (ps_asg (pe_op op_add (pv 4) pe_int) (pg_sub (pe_fld (pv 0) rfl) (pv 3) set_list))))) pss_nil) (pss_one (ps_ret (pe_c k_tell_plan hr (by decide) rfl (pa_cons (pv 2) pa_nil))))))), ?_⟩
    have hc := n.hold
    refine q_when (b := !decide (i < c.links.length)) (et_not (et_B (ev_call (ea_cons (ev_var rfl) (ea_cons (ev_var rfl) ea_nil)) (use_has_link hc)))) (fun hb H1 e1 => ?_) (fun hb H1 e1 => ?_)
    · refine s_code (k.err n e1 (code := -2) (if_pos ?_))
      rw [spec_links_len]
      simpa using hb
    · have hi : i < c.links.length := by simpa using hb
      have x1 : ¬ (c.spec.links.length ≤ i) := by rw [spec_links_len]; omega
      refine q_asgPl (w := c.spec) (T := c.spec.linkDrained i) (epl_find (K := K) (ks := [i]) (ev_var rfl) (el_lst (ea_cons (ev_var rfl) ea_nil) (by show 1 ≤ 100000; decide)) (hc.mono e1) o (by show 1 ≤ 1000; decide) (link_target o i)) fun v p H2 e2 pv hl hn hs => ?_
      have pl : c.spec.plan (c.spec.linkDrained i) = p := plan_is o (cand_linkDrained o) (nodup_linkDrained _ i) hn hs
      have e02 := e1.trans e2
      have ex : Su203.execute c.spec (.drainLink i) = if c.spec.links.length ≤ i then (c.spec, Su203.error (-2)) else (match c.spec.plan (c.spec.linkDrained i) with
        | some p => ({ c.spec with assignment := p.foldl Su203.applyMove c.spec.assignment }, Su203.okMoves p)
        | none => (c.spec, Su203.error (-33))) := rfl
      rw [if_neg x1, pl] at ex
      refine q_when (b := !decide (v = .non)) (et_test (ev_notN (ev_var rfl))) (fun hb H3 e3 => ?_) (fun hb H3 e3 => ?_)
      · cases p with
        | none =>
          have hv : v = .non := pv
          rw [hv] at hb
          cases hb
        | some ms =>
          obtain ⟨pa, ts, rfl, hm⟩ := pv
          have bst := hs ms rfl
          have vm := valid_mem bst.valid
          have e03 := e02.trans e3
          have hS3 : H3 c.sa = some (.lst (nats c.asg)) := e03 _ _ (NtC.hS hc)
          refine s_forMo (K := K) (ev_var rfl) (hm.ex e3) (fun j σ' H' => (∃ y3 y4, σ' = [some (.ref c.a), some (.int i), some (.ref pa), y3, y4]) ∧ MvT H' pa ts ms ∧ ∃ H0, Ex H H0 ∧ H' = upd H0 c.sa (.lst (nats (FmS.run c.asg (ms.take j)))))
            (fun H4 e4 => ⟨⟨none, none, rfl⟩, hm.ex (e3.trans e4), H4, e03.trans e4, (upd_id (e4 _ _ hS3)).symm⟩) (fun j σ' H' q => q.2.1) ?_ ?_
          · rintro j m σ' H' hj ⟨⟨y3, y4, rfl⟩, hm', H0, e0, rfl⟩
            obtain ⟨m1, m2⟩ := vm m (List.mem_of_getElem? hj)
            have n' := Net.asg (n.ex e0) (FmS.run c.asg (ms.take j))
            have hlen : m.1 < (FmS.run c.asg (ms.take j)).length := by
              rw [run_len]
              have := (fits_of o).1
              rw [spec_flows_len] at m1
              omega
            refine s_setL (xs := nats (FmS.run c.asg (ms.take j))) (j := m.1) upd_same (ev_addN (ev_var rfl) (ev_nat 1)) (evN3 T (c := { c with asg := FmS.run c.asg (ms.take j) }) n'.hold (ev_var rfl)) (ev_var rfl) (by rw [nats_len]; exact hlen) fun H5 e5 => ?_
            rw [nats_set, show m.2 - 1 + 1 = m.2 by omega, show (FmS.run c.asg (ms.take j)).set m.1 m.2 = FmS.run c.asg (ms.take (j + 1)) from (run_take c.asg hj).symm]
            have hS5 : H5 c.sa = some (.lst (nats (FmS.run c.asg (ms.take j)))) := e5 _ _ upd_same
            refine ⟨⟨_, _, rfl⟩, (hm'.ex e5).upd (fun z => ?_) (fun xs z => ?_), upd H5 c.sa (.lst (nats c.asg)), fun a u ha => ?_, by rw [upd_upd]⟩
            · have h1 := (hm'.ex e5).1
              rw [z, hS5] at h1
              have h1 := HO.lst.inj (Option.some.inj h1)
              cases hts : ts with
              | nil =>
                have := hm'.2.1
                rw [hts] at this
                have h2 := (List.getElem?_eq_some_iff.mp hj).1
                rw [← this] at h2
                exact Nat.not_lt_zero _ h2
              | cons t ts =>
                rw [hts] at h1
                cases hr : FmS.run c.asg (ms.take j) with
                | nil =>
                  rw [hr] at h1
                  cases h1
                | cons y ys =>
                  rw [hr] at h1
                  cases (List.cons.inj h1).1
            · rw [hS5] at z
              cases z
            · by_cases ea : a = c.sa
              · subst ea
                rw [upd_same, ← ha]
                exact (NtC.hS hc).symm
              · rw [upd_ne ea]
                refine e5 _ _ ?_
                rw [upd_ne ea]
                exact e0 _ _ ha
          · rintro σ' H' ⟨⟨y3, y4, rfl⟩, hm', H0, e0, rfl⟩
            rw [List.take_length]
            refine s_retL (el_call (ea_cons (ev_var rfl) ea_nil) (use_tell_plan (o := some ms) ⟨pa, ts, rfl, ?_⟩ fun ms' z => ?_)) (k.asg n e0 (s := FmS.run c.asg ms) (r := Su203.okMoves ms) ex)
            · rw [List.take_length] at hm'
              exact hm'
            · cases z
              exact Nat.le_trans (hl ms rfl) (by decide)
      · cases p with
        | none => exact s_retL (el_call (ea_cons (ev_var rfl) ea_nil) (use_tell_plan (o := none) (pv.ex e3) fun ms z => (by cases z))) (k.err n (e02.trans e3) (code := -33) ex)
        | some ms =>
          obtain ⟨pa, ts, rfl, hm⟩ := pv
          cases hb
end
end Fm

set_option Elab.async false
set_option linter.all false
set_option maxRecDepth 100000
set_option maxHeartbeats 4000000
/-! tell_allowed_moves, tell_reachable_count, tell_component_count, tell_stuck_flows, tell_flow_paths, tell_totals. -/
namespace Fm
open C8 (pe_c pe_mk pe_gc)
open PySem PySem.Spec PyProof.Rows L2 Evl FmS
section
variable {K : PySem.W.Frag} {σ : L2.St} {H H' : Hp} {ta tb te tx : TE} {t u : TT} {x y z v : V} {D : Ends} {tu tz : TS} {tA : TA}
/-- xs.extend(ys) -/
theorem s_ext {l b : Addr} {xs zs : List V} (hl : H l = some (.lst xs)) (hb : H b = some (.lst zs)) (ha : Ev ta σ H (.ref l)) (h : Ev te σ H (.ref b)) (hz : xs.length + zs.length ≤ sizeLine) (k : ∀ H1, Ex H H1 → D.nx σ (upd H1 l (.lst (xs ++ zs)))) :
    tDrop (tBM K "list" rExtend ta (tCons te tNil)) D σ H := ha H (Ex.refl H) _ fun H1 e1 =>
  ⟨Or.inl ⟨rfl, xs, sq_of (e1 l _ hl)⟩, h H1 e1 _ fun H2 e2 => ⟨l, b, xs, zs, rfl, rfl, e2 l _ (e1 l _ hl), e2 b _ (e1 b _ hb), hz, k H2 (e1.trans e2)⟩⟩
/-- a name for what plans_from answers -/
theorem q_asgP {w : Su203.Network} {s : List Nat} {i : Nat} (h : EvP te σ H w s) (k : ∀ (d : Addr) (l : List EnC) (H2 : Hp), H d = none → Ex H H2 → H2 d = some (.dT (kvsOf l)) → Bfs w s (ents l) → l.length ≤ 243 → tz D (σ.set i (some (.ref d))) H2) : tSeq (tAsg te (gName i)) tz D σ H :=
  h H (Ex.refl H) _ fun d l H2 nd e hd _ bf few _ => k d l H2 nd e hd bf few
def EvC (te : TE) (σ : L2.St) (H : Hp) (w : Su203.Network) : Prop := ∀ H1, Ex H H1 → ∀ Q : VK, RetC w H1 Q → te σ H1 Q
theorem ec_call {sp : Sp} {vs : List V} {w : Su203.Network} (h : EvA tA σ H vs) (hs : SpC sp vs H w) : EvC (tCall sp [] E0 tA) σ H w := fun H1 e Q q => h H1 e _ fun H2 e2 => by
  show sp (vs ++ []) H2 Q E0
  rw [List.append_nil]
  exact hs H2 (e.trans e2) Q (q.back e2) E0
theorem q_asgCa {w : Su203.Network} {i : Nat} (h : EvC te σ H w) (k : ∀ (p : Addr) (l : List (Addr × List Nat)) (H2 : Hp), H p = none → Ex H H2 → TuL H2 p l → l.map (·.2) = w.feasibleAssignments → tz D (σ.set i (some (.ref p))) H2) : tSeq (tAsg te (gName i)) tz D σ H := h H (Ex.refl H) _ k
/-- len(candidate_assignments(network)) -/
theorem ev_lenC {w : Su203.Network} (h : EvC te σ H w) : Ev (tCB (rLenS K) (tCons te tNil)) σ H (.int (w.feasibleAssignments.length : Nat)) := fun H1 e Q q => h H1 e _ fun p l H2 _ e2 tl hl =>
  ⟨p, l.map fun x => .ref x.1, rfl, .inl (sq_of tl.1), by
    rw [List.length_map, show l.length = w.feasibleAssignments.length by rw [← hl, List.length_map]]
    exact q H2 e2⟩
theorem ev_lenD {d : Addr} {kvs : List (List L2.Key × V)} (h : Ev te σ H (.ref d)) (hd : H d = some (.dT kvs)) : Ev (tCB rLenT (tCons te tNil)) σ H (.int (kvs.length : Nat)) := fun H1 e Q q => h H1 e _ fun H2 e2 => ⟨d, kvs, rfl, (e.trans e2) _ _ hd, q H2 e2⟩
/-- reached = list(plans_from(..)) -/
theorem q_asgKs {w : Su203.Network} {s : List Nat} {i : Nat} (h : EvP te σ H w s) (k : ∀ (p : Addr) (l : List (Addr × List Nat)) (H2 : Hp), H p = none → Ex H H2 → TuL H2 p l → (∀ t, t ∈ l.map (·.2) ↔ Reach w s t) → l.length ≤ 243 → tz D (σ.set i (some (.ref p))) H2) :
    tSeq (tAsg (tCB (fun xs H Q => ∃ d kvs, xs = [V.ref d] ∧ Rd H d (.dT kvs) ∧ ∀ p bs, H p = none → IsKeys H kvs bs → Q (.ref p) (upd H p (.lst (bs.map V.ref)))) (tCons te tNil)) (gName i)) tz D σ H :=
  h H (Ex.refl H) _ fun d l H2 nd e hd _ bf few _ => ⟨d, kvsOf l, rfl, .inl hd, fun p bs np hk => by
    have hl : l.length = bs.length := by
      have := Paired.length hk
      rw [List.length_map] at this
      exact this
    have zs : (bs.zip (l.map (·.s))).map (·.2) = l.map (·.s) := by
      rw [List.map_snd_zip]
      rw [List.length_map]
      omega
    have za : (bs.zip (l.map (·.s))).map (·.1) = bs := by
      rw [List.map_fst_zip]
      rw [List.length_map]
      omega
    refine k p (bs.zip (l.map (·.s))) _ (fresh_back e np) (e.trans (Ex.new np)) ⟨?_, fun x hx => ?_⟩ (fun t => ?_) ?_
    · rw [upd_same]
      refine congrArg (fun z => some (HO.lst z)) ?_
      conv => lhs; rw [← za]
      rw [List.map_map]
      rfl
    · obtain ⟨j, hj⟩ := List.mem_iff_getElem?.mp hx
      rw [List.getElem?_zip_eq_some] at hj
      obtain ⟨h1, h2⟩ := hj
      rw [List.getElem?_map] at h2
      cases q : l[j]? with
      | none =>
        rw [q] at h2
        cases h2
      | some y =>
        rw [q] at h2
        have h2 : y.s = x.2 := Option.some.inj h2
        obtain ⟨b, hb, r⟩ := paired_get hk (map_get (g := EnC.kv) q)
        have eb : b = x.1 := Option.some.inj (hb.symm.trans h1)
        have r : H2 b = some (.tup ((keyL y.s).map kV)) := r
        rw [nats_key, h2, eb] at r
        exact Ex.new np _ _ r
    · rw [zs, ← ents_keys]
      exact bf.keys t
    · rw [List.length_zip, List.length_map]
      omega⟩
end
theorem all_range {α : Type} (l : List α) (q : α → Bool) (dflt : α) : ((List.range l.length).map fun i => q (l.getD i dflt)).all id = l.all q := by
  have e : l = (List.range l.length).map fun i => l.getD i dflt := by
    refine List.ext_getElem? fun j => ?_
    rw [List.getElem?_map]
    by_cases hj : j < l.length
    · rw [List.getElem?_range hj, List.getElem?_eq_getElem hj]
      show some _ = some (l.getD j dflt)
      rw [List.getD_eq_getElem?_getD, List.getElem?_eq_getElem hj]
      rfl
    · rw [List.getElem?_eq_none (by omega), List.getElem?_eq_none (by rw [List.length_range]; omega)]
      rfl
  conv => rhs; rw [e]
  rw [List.all_map, List.all_map]
  rfl
section
variable {P : Program} {w : World} {K : PySem.W.Frag} {mg : Str → Option Value} {base : Heap} {A : Adr} {H H1 : Hp} {c : NtC}
/-! ### tell_allowed_moves -/
def sp_tell_allowed_moves (A : Adr) : Sp := fun vs H Q _ => ∃ (c : NtC), vs = [.ref c.a] ∧ Net A H c ∧ SpOk c.spec ∧ After A H c .allowedMoves [] Q
theorem ok_tell_allowed_moves (T : Txt K mg A) (k_allowed_moves : Cal P w K mg base 3 "allowed_moves" (sp_allowed_moves K A)) (k_tell_moves : Cal P w K mg base 1 "tell_moves" (sp_tell_moves A)) {f : Addr} {fd : FuncData} (F : Fun K "tell_allowed_moves" "tell_allowed_moves" s_tell_allowed_moves f fd) (g : mg "tell_allowed_moves" = some (.ref f)) (b : Binds K fd ["network"] []) : Cal P w K mg base 4 "tell_allowed_moves" (sp_tell_allowed_moves A) := by
  refine ⟨f, fd, _, [], F.ok sc_tell_allowed_moves (fun vs H Q E h => ?_) (fun cdv A' outer s H vs Q E hr h => ?_), g, F.kp, b, .nil⟩
  · obtain ⟨c, rfl, _⟩ := h
    rfl
  · obtain ⟨c, rfl, n, o, k⟩ := h
    refine ⟨_, (pss_one (ps_ret (pe_c k_tell_moves hr (by decide) rfl (pa_cons (pe_c k_allowed_moves hr (by decide) rfl (pa_cons (pv 0) (pa_cons (pe_fld (pv 0) rfl) pa_nil))) pa_nil)))), ?_⟩
    have hc := n.hold
    refine em_call (ea_cons (ev_var rfl) (ea_cons (evN3 T hc (ev_var rfl)) ea_nil)) (use_allowed_moves (kb := false) hc (sq_of (NtC.hS hc)) (wf_of o) (fits_of o)) H (Ex.refl H) _ fun mo ts H2 nmo e2 hm => ?_
    have lm : (c.spec.moves c.asg).length ≤ 1000 := by
      rw [moves_eq]
      have h1 := movesTo_len c.asg (wf_of o) c.flows.length (Nat.le_refl _)
      have h2 := (wf_of o).2.1
      have h1 : ((List.range c.flows.length).flatMap fun i => (enterL c c.asg i).map fun p => (i, p + 1)).length ≤ 3 * c.flows.length := h1
      omega
    show sp_tell_moves A ([.ref mo] ++ []) H2 Q E0
    rw [List.append_nil]
    exact ⟨mo, ts, _, rfl, hm, lm, fun p H3 hp e3 hl => k.stay (r := Su203.okMoves (c.spec.moves c.asg)) n e2 rfl p H3 hp e3 hl⟩
/-! ### tell_reachable_count -/
theorem reach_len {w : Su203.Network} (o : SpOk w) {l : List EnC} (bf : Bfs w w.assignment (ents l)) : l.length = w.reachable.length := by
  rw [← length_of_same bf.nodup (nodup_reachable o) fun t => by rw [bf.keys t, mem_reachable o], List.length_map, List.length_map]
def sp_tell_reachable_count (A : Adr) : Sp := fun vs H Q _ => ∃ (c : NtC), vs = [.ref c.a] ∧ Net A H c ∧ SpOk c.spec ∧ After A H c .reachableCount [] Q
theorem ok_tell_reachable_count (T : Txt K mg A) (k_plans_from : Cal P w K mg base 4 "plans_from" (sp_plans_from A)) (k_current_assignment : Cal P w K mg base 1 "current_assignment" (sp_current_assignment A)) (k_candidate_assignments : Cal P w K mg base 3 "candidate_assignments" (sp_candidate_assignments A)) {f : Addr} {fd : FuncData} (F : Fun K "tell_reachable_count" "tell_reachable_count" s_tell_reachable_count f fd) (g : mg "tell_reachable_count" = some (.ref f)) (b : Binds K fd ["network"] []) : Cal P w K mg base 5 "tell_reachable_count" (sp_tell_reachable_count A) := by
  refine ⟨f, fd, _, [], F.ok sc_tell_reachable_count (fun vs H Q E h => ?_) (fun cdv A' outer s H vs Q E hr h => ?_), g, F.kp, b, .nil⟩
  · obtain ⟨c, rfl, _⟩ := h
    rfl
  · obtain ⟨c, rfl, n, o, k⟩ := h
    refine ⟨_, (pss_cons (ps_set (i := 1) sc_tell_reachable_count.nd rfl (.inl rfl) (pe_c k_plans_from hr (by decide) rfl (pa_cons (pv 0) (pa_cons (pe_c k_current_assignment hr (by decide) rfl (pa_cons (pv 0) pa_nil)) pa_nil)))) (pss_one (ps_ret (pe_lst (pa_cons (pe_callB call_len_dT (by rfl) T.b_len PySem.boot_len (pa_cons (pv 1) pa_nil)) (pa_cons (pe_callB call_len_seq (by rfl) T.b_len PySem.boot_len (pa_cons (pe_c k_candidate_assignments hr (by decide) rfl (pa_cons (pv 0) pa_nil)) pa_nil)) pa_nil)))))), ?_⟩
    have hc := n.hold
    refine q_asgP (w := c.spec) (s := c.asg) (ep_callU (ev_var rfl) (eu_call (ea_cons (ev_var rfl) ea_nil) (use_current_assignment hc)) fun p H3 e3 hp => use_plans_from (hc.mono e3) o (wf_of o) hp (cand_asg o)) fun d l H1 nd e1 hd bf few => ?_
    refine s_retL (el_lst (ea_cons (ev_lenD (ev_var rfl) hd) (ea_cons (ev_lenC (K := K) (ec_call (ea_cons (ev_var rfl) ea_nil) (use_candidate_assignments (hc.mono e1) o))) ea_nil)) (by show 2 ≤ 100000; decide)) fun p H2 hp e2 hl => ?_
    refine k.stay (r := Su203.ok c.spec.reachable.length [c.spec.feasibleAssignments.length]) n e1 rfl p H2 hp e2 ?_
    rw [hl, List.length_map, reach_len o bf]
    rfl
/-! ### tell_component_count -/
def sp_tell_component_count (A : Adr) : Sp := fun vs H Q _ => ∃ (c : NtC), vs = [.ref c.a] ∧ Net A H c ∧ SpOk c.spec ∧ After A H c .componentCount [] Q
theorem ok_tell_component_count (T : Txt K mg A) (k_candidate_assignments : Cal P w K mg base 3 "candidate_assignments" (sp_candidate_assignments A)) (k_count_components : Cal P w K mg base 5 "count_components" (sp_count_components A)) {f : Addr} {fd : FuncData} (F : Fun K "tell_component_count" "tell_component_count" s_tell_component_count f fd) (g : mg "tell_component_count" = some (.ref f)) (b : Binds K fd ["network"] []) : Cal P w K mg base 6 "tell_component_count" (sp_tell_component_count A) := by
  refine ⟨f, fd, _, [], F.ok sc_tell_component_count (fun vs H Q E h => ?_) (fun cdv A' outer s H vs Q E hr h => ?_), g, F.kp, b, .nil⟩
  · obtain ⟨c, rfl, _⟩ := h
    rfl
  · obtain ⟨c, rfl, n, o, k⟩ := h
    refine ⟨_, (pss_cons (ps_set (i := 1) sc_tell_component_count.nd rfl (.inl rfl) (pe_c k_candidate_assignments hr (by decide) rfl (pa_cons (pv 0) pa_nil))) (pss_one (ps_ret (pe_lst (pa_cons (pe_c k_count_components hr (by decide) rfl (pa_cons (pv 0) (pa_cons (pv 1) pa_nil))) (pa_cons (pe_callB call_len_seq (by rfl) T.b_len PySem.boot_len (pa_cons (pv 1) pa_nil)) pa_nil)))))), ?_⟩
    have hc := n.hold
    refine q_asgCa (ec_call (ea_cons (ev_var rfl) ea_nil) (use_candidate_assignments hc o)) fun ca l H1 nca e1 tl hl => ?_
    have ev : Ev (tCB (rLenS K) (tCons (tVar 1) tNil)) [some (.ref c.a), some (.ref ca)] H1 (.int (c.spec.feasibleAssignments.length : Nat)) := by
      have r := ev_lenN' (K := K) (σ := [some (.ref c.a), some (.ref ca)]) (g := fun e : Addr × List Nat => V.ref e.1) (ev_var (i := 1) rfl) (sq_of tl.1)
      rw [show l.length = c.spec.feasibleAssignments.length by rw [← hl, List.length_map]] at r
      exact r
    refine s_retL (el_lst (ea_cons (ev_call (ea_cons (ev_var rfl) (ea_cons (ev_var rfl) ea_nil)) (use_count_components (hc.mono e1) o tl hl)) (ea_cons ev ea_nil)) (by show 2 ≤ 100000; decide)) fun p H2 hp e2 h2 => ?_
    refine k.stay (r := Su203.ok (c.spec.componentCount (c.spec.feasibleAssignments.length + 1) c.spec.feasibleAssignments) [c.spec.feasibleAssignments.length]) n e1 rfl p H2 hp e2 ?_
    rw [h2, component_firsts o _ _ (fun t ht => (mem_feasible o).mp ht) (Nat.le_succ _)]
    rfl
/-! ### tell_stuck_flows -/
def sp_tell_stuck_flows (A : Adr) : Sp := fun vs H Q _ => ∃ (c : NtC) (i : Nat), vs = [.ref c.a, .int i] ∧ Net A H c ∧ SpOk c.spec ∧ After A H c (.stuckFlows i) [] Q
theorem all_same {l r : List (List Nat)} (h : ∀ t, t ∈ l ↔ t ∈ r) (q : List Nat → Bool) : l.all q = r.all q := by
  rw [Bool.eq_iff_iff, List.all_eq_true, List.all_eq_true]
  exact ⟨fun z t ht => z t ((h t).mpr ht), fun z t ht => z t ((h t).mp ht)⟩
theorem ok_tell_stuck_flows (T : Txt K mg A) (k_has_link : Cal P w K mg base 1 "has_link" (sp_has_link A)) (k_plans_from : Cal P w K mg base 4 "plans_from" (sp_plans_from A)) (k_current_assignment : Cal P w K mg base 1 "current_assignment" (sp_current_assignment A)) (k_uses_link : Cal P w K mg base 1 "uses_link" (sp_uses_link A)) {f : Addr} {fd : FuncData} (F : Fun K "tell_stuck_flows" "tell_stuck_flows" s_tell_stuck_flows f fd) (g : mg "tell_stuck_flows" = some (.ref f)) (b : Binds K fd ["network", "link"] []) : Cal P w K mg base 5 "tell_stuck_flows" (sp_tell_stuck_flows A) := by
  refine ⟨f, fd, _, [], F.ok sc_tell_stuck_flows (fun vs H Q E h => ?_) (fun cdv A' outer s H vs Q E hr h => ?_), g, F.kp, b, .nil⟩
  · obtain ⟨c, i, rfl, _⟩ := h
    rfl
  · obtain ⟨c, lk, rfl, n, o, k⟩ := h
    refine ⟨_, (pss_cons (ps_if (pt_not (pt_val (pe_c k_has_link hr (by decide) rfl (pa_cons (pv 0) (pa_cons (pv 1) pa_nil))))) (pss_one (ps_ret (pe_lst (pa_cons (pe_gc rfl T.c_MISSING) pa_nil)))) pss_nil) (pss_cons (ps_set (i := 2) sc_tell_stuck_flows.nd rfl (.inl rfl) (pe_callTy (call_list_dT rfl) (by rfl) T.b_list (by decide +kernel) (pa_cons (pe_c k_plans_from hr (by decide) rfl (pa_cons (pv 0) (pa_cons (pe_c k_current_assignment hr (by decide) rfl (pa_cons (pv 0) pa_nil)) pa_nil))) pa_nil))) (pss_cons (ps_set (i := 3) sc_tell_stuck_flows.nd rfl (.inl rfl) (pe_lst pa_nil)) (pss_cons (ps_for PassesOwn.never rfl (pi_enum (by rfl) T.b_enumerate (pa_cons (pe_fld (pv 0) rfl) pa_nil)) (pg_tup rfl (pgs_cons (pg_name (i := 4) sc_tell_stuck_flows.nd rfl (.inr rfl)) (pgs_cons (pg_name (i := 5) sc_tell_stuck_flows.nd rfl (.inr rfl)) pgs_nil))) (pss_one (ps_if (pt_val (pe_callB (cr_all rfl) (by rfl) T.b_all PyProof.Rows.boot_all (pa_cons (pe_lc (te := tCall (sp_uses_link A) [] E0 (tCons (tVar 5) (tCons (tOp (rIxB K) (tVar 6) (tVar 4)) (tCons (tVar 1) tNil)))) (own := [("assignment", 6)]) rfl sc_tell_stuck_flows.nd (pi_list (pv 2)) (blkOk_by (own := [("assignment", 6)]) (N := N_tell_stuck_flows) (sc := defScope s_tell_stuck_flows) (by decide +kernel)) (fun _ _ _ _ _ => (pg_name (i := 6) sc_tell_stuck_flows.nd rfl (.inl rfl))) (fun _ _ _ _ _ => pts_nil) (fun _ _ _ _ _ => (pe_c k_uses_link hr (by decide) rfl (pa_cons (pv 5) (pa_cons (pe_ix ix_b (pv 6) (pv 4) (fun _ _ => rfl)) (pa_cons (pv 1) pa_nil)))))) pa_nil))) (pss_one (ps_expr (pe_bm PySem.F.plainAttrs_list PySem.F.slot_list_append PySem.F.type_list_append mt_append (pv 3) (pa_cons (pv 4) pa_nil)))) pss_nil))) (pss_one (ps_ret (pe_op op_cat (pe_lst (pa_cons (pe_callB call_len_seq (by rfl) T.b_len PySem.boot_len (pa_cons (pv 3) pa_nil)) pa_nil)) (pv 3)))))))), ?_⟩
    have hc := n.hold
    refine q_when (b := !decide (lk < c.links.length)) (et_not (et_B (ev_call (ea_cons (ev_var rfl) (ea_cons (ev_var rfl) ea_nil)) (use_has_link hc)))) (fun hb H1 e1 => ?_) (fun hb H1 e1 => ?_)
    · refine s_code (k.err n e1 (code := -2) (if_pos ?_))
      rw [spec_links_len]
      simpa using hb
    · have hi : lk < c.links.length := by simpa using hb
      have x1 : ¬ (c.spec.links.length ≤ lk) := by rw [spec_links_len]; omega
      have hc1 := hc.mono e1
      refine q_asgKs (w := c.spec) (s := c.asg) (ep_callU (ev_var rfl) (eu_call (ea_cons (ev_var rfl) ea_nil) (use_current_assignment hc1)) fun p H3 e3 hp => use_plans_from (hc1.mono e3) o (wf_of o) hp (cand_asg o)) fun ra l H2 nra e2 tl hl few => ?_
      have e02 := e1.trans e2
      refine q_asgL (el_lst ea_nil (Nat.zero_le _)) fun so H3 nso e3 hso => ?_
      have e03 := e02.trans e3
      have nso0 : H so = none := fresh_back e02 nso
      have raso : ra ≠ so := ne_of_none tl.1 nso
      have hc3 := hc.mono e03
      have fitl : ∀ e ∈ l, Fits c e.2 := fun e he => fits_cand (reach_cand (cand_asg o) ((hl e.2).mp (List.mem_map_of_mem he)))
      have hall : ∀ q : List Nat → Bool, (l.map (·.2)).all q = c.spec.reachable.all q := all_same fun t => (hl t).trans (mem_reachable o).symm
      let stuck : Nat → Bool := fun f => c.spec.reachable.all fun s => (c.spec.usedLinks f (s.getD f 0)).contains lk
      refine q_forE (a := c.fa) (xs := c.frefs) (ea_cons (evN2 T hc3 (ev_var rfl)) ea_nil) (sq_of (NtC.hF hc3)) (fun j σ' H' => (∃ y4 y5 y6, σ' = [some (.ref c.a), some (.int lk), some (.ref ra), some (.ref so), y4, y5, y6]) ∧ Ex H H' ∧ TuL H' ra l ∧ H' so = some (.lst (nats ((List.range j).filter stuck))) ∧ j ≤ c.flows.length)
        (fun H4 e4 => ⟨⟨none, none, none, rfl⟩, e03.trans e4, tl.ex (e3.trans e4), e4 _ _ hso, Nat.zero_le _⟩) (fun j σ' H' p => sq_of (p.2.1 _ _ (NtC.hF hc))) ?_ ?_
      · rintro j x σ' H' hx ⟨⟨y4, y5, y6, rfl⟩, e4, tl', hs', hj⟩ H4 e5
        obtain ⟨g, hg, rfl⟩ := refs_get hx
        have hjl := (List.getElem?_eq_some_iff.mp hg).1
        have e05 := e4.trans e5
        have hgl := (NtC.hFl hc hg).mono e05
        have tl4 := tl'.ex e5
        have el := el_lcL (K := K) (te := tCall (sp_uses_link A) [] E0 (tCons (tVar 5) (tCons (tOp (rIxB K) (tVar 6) (tVar 4)) (tCons (tVar 1) tNil)))) (t := tYes) (tl := tVar 2) (j := 6) (vs := [6]) (σ := [some (.ref c.a), some (.int lk), some (.ref ra), some (.ref so), some (.int (j : Int)), some (.ref g.a), y6]) (H := H4) (a := ra) (xs := l.map fun e => .ref e.1) (fun _ => true) (fun i => .bl ((c.spec.usedLinks j ((l.getD i (0, [])).2.getD j 0)).contains lk)) (ev_var rfl) (sq_of tl4.1) (by rw [List.length_map]; omega) (fun _ => rfl) (fun _ _ _ _ _ => et_yes) (fun i x H5 e6 hx _ => by
          obtain ⟨e, he, rfl⟩ := refs_get (g := fun e : Addr × List Nat => e.1) hx
          have hem := List.mem_of_getElem? he
          rw [List.getD_eq_getElem?_getD (l := l), he]
          show Ev _ _ _ (.bl ((c.spec.usedLinks j (e.2.getD j 0)).contains lk))
          rw [used_spec hg]
          exact ev_call (ea_cons (ev_var rfl) (ea_cons (ev_ixB (K := K) (k := true) (ev_var rfl) (ev_var rfl) (sb_t (e6 _ _ (tl4.2 e hem))) (nats_get (fits_get (fitl e hem) hg))) (ea_cons (ev_var rfl) ea_nil))) (use_uses_link (hgl.mono e6) ((fitl e hem).2 j g hg)))
        rw [List.length_map, given_all, show ((List.range l.length).map fun i => V.bl ((c.spec.usedLinks j ((l.getD i (0, [])).2.getD j 0)).contains lk)) = ((List.range l.length).map fun i => (c.spec.usedLinks j ((l.getD i (0, [])).2.getD j 0)).contains lk).map V.bl by rw [List.map_map]; rfl] at el
        have ev := ev_all (K := K) el
        rw [all_range l (fun e => (c.spec.usedLinks j (e.2.getD j 0)).contains lk) (0, []), show (l.all fun e => (c.spec.usedLinks j (e.2.getD j 0)).contains lk) = stuck j by
          show _ = c.spec.reachable.all fun s => (c.spec.usedLinks j (s.getD j 0)).contains lk
          rw [← hall, List.all_map]
          rfl] at ev
        refine s_when (b := stuck j) (et_B ev) (fun hb H5 e6 => ?_) (fun hb H5 e6 => ?_)
        · refine s_app (xs := nats ((List.range j).filter stuck)) (e6 _ _ (e5 _ _ hs')) (ev_var rfl) (ev_var rfl) (by
            rw [nats_len]
            have h1 := List.length_filter_le stuck (List.range j)
            rw [List.length_range] at h1
            have := (wf_of o).2.1
            omega) fun H7 e7 => ?_
          have nost : ∀ xs, H7 so ≠ some (.tup xs) := fun xs z => by
            rw [e7 _ _ (e6 _ _ (e5 _ _ hs'))] at z
            cases z
          refine ⟨⟨_, _, _, rfl⟩, Ex.mut ((e05.trans e6).trans e7) nso0, (tl4.ex (e6.trans e7)).upd raso nost, ?_, hjl⟩
          rw [upd_same, List.range_succ, List.filter_append, List.filter_cons, if_pos hb]
          show some (HO.lst (nats _ ++ nats [j])) = _
          unfold nats
          rw [← List.map_append]
          rfl
        · refine ⟨⟨_, _, _, rfl⟩, e05.trans e6, tl4.ex e6, ?_, hjl⟩
          rw [e6 _ _ (e5 _ _ hs'), List.range_succ, List.filter_append, List.filter_cons, if_neg (by rw [hb]; decide)]
          show some (HO.lst (nats _)) = some (HO.lst (nats (_ ++ [])))
          rw [List.append_nil]
      · rintro σ' H' ⟨⟨y4, y5, y6, rfl⟩, e4, tl', hs', hj⟩
        rw [List.length_map] at hs'
        have hz : ((List.range c.flows.length).filter stuck).length ≤ 1000 := by
          have h1 := List.length_filter_le stuck (List.range c.flows.length)
          rw [List.length_range] at h1
          have := (wf_of o).2.1
          omega
        refine s_retL (el_catN (el_lst (ea_cons (ev_lenN' (K := K) (ev_var rfl) (sq_of hs')) ea_nil) (by show 1 ≤ 100000; decide)) (ev_var rfl) hs' (by rw [nats_len]; show 1 + _ ≤ _; omega)) fun p H2 hp e2 h2 => ?_
        refine k.stay (r := Su203.okList (c.spec.stuckFlows lk)) n e4 (if_neg x1) p H2 hp e2 ?_
        have es : c.spec.stuckFlows lk = (List.range c.flows.length).filter stuck := by
          unfold Su203.Network.stuckFlows Su203.Network.flowIndices
          rw [spec_flows_len]
        rw [h2, es]
        rfl
/-! ### tell_flow_paths -/
def sp_tell_flow_paths (A : Adr) : Sp := fun vs H Q _ => ∃ (c : NtC) (i : Nat), vs = [.ref c.a, .int i] ∧ Net A H c ∧ SpOk c.spec ∧ After A H c (.flowPaths i) [] Q
def pathRow (ps : List PaC) : List Nat := ps.flatMap fun p => p.nodes.length :: p.nodes
theorem pathRow_len : ∀ (ps : List PaC), (∀ p ∈ ps, p.nodes.length ≤ 8) → (pathRow ps).length ≤ 9 * ps.length
  | [], _ => Nat.zero_le _
  | p :: ps, h => by
    have ih := pathRow_len ps fun q hq => h q (.tail _ hq)
    have h1 := h p (.head _)
    show ((p.nodes.length :: p.nodes) ++ pathRow ps).length ≤ 9 * (ps.length + 1)
    rw [List.length_append, List.length_cons]
    omega
theorem ok_tell_flow_paths (T : Txt K mg A) (k_has_flow : Cal P w K mg base 1 "has_flow" (sp_has_flow A)) {f : Addr} {fd : FuncData} (F : Fun K "tell_flow_paths" "tell_flow_paths" s_tell_flow_paths f fd) (g : mg "tell_flow_paths" = some (.ref f)) (b : Binds K fd ["network", "flow"] []) : Cal P w K mg base 2 "tell_flow_paths" (sp_tell_flow_paths A) := by
  refine ⟨f, fd, _, [], F.ok sc_tell_flow_paths (fun vs H Q E h => ?_) (fun cdv A' outer s H vs Q E hr h => ?_), g, F.kp, b, .nil⟩
  · obtain ⟨c, i, rfl, _⟩ := h
    rfl
  · obtain ⟨c, i, rfl, n, o, k⟩ := h
    refine ⟨_, (pss_cons (ps_if (pt_not (pt_val (pe_c k_has_flow hr (by decide) rfl (pa_cons (pv 0) (pa_cons (pv 1) pa_nil))))) (pss_one (ps_ret (pe_lst (pa_cons (pe_gc rfl T.c_MISSING) pa_nil)))) pss_nil) (pss_cons (ps_set (i := 2) sc_tell_flow_paths.nd rfl (.inl rfl) (pe_fld (pe_ix ix_list (pe_fld (pv 0) rfl) (pv 1) (fun _ _ => rfl)) rfl)) (pss_cons (ps_set (i := 3) sc_tell_flow_paths.nd rfl (.inl rfl) (pe_lst (pa_cons (pe_callB call_len_seq (by rfl) T.b_len PySem.boot_len (pa_cons (pv 2) pa_nil)) pa_nil))) (pss_cons (ps_for PassesOwn.never rfl (pi_list (pv 2)) (pg_name (i := 4) sc_tell_flow_paths.nd rfl (.inl rfl)) (pss_cons (ps_expr (pe_bm PySem.F.plainAttrs_list PySem.F.slot_list_append PySem.F.type_list_append mt_append (pv 3) (pa_cons (pe_callB call_len_seq (by rfl) T.b_len PySem.boot_len (pa_cons (pe_fld (pv 4) rfl) pa_nil)) pa_nil))) (pss_one (ps_expr (pe_bm PySem.F.plainAttrs_list PySem.F.slot_list_extend PySem.F.type_list_extend mt_extend (pv 3) (pa_cons (pe_fld (pv 4) rfl) pa_nil)))))) (pss_one (ps_ret (pv 3))))))), ?_⟩
    have hc := n.hold
    refine q_when (b := !decide (i < c.flows.length)) (et_not (et_B (ev_call (ea_cons (ev_var rfl) (ea_cons (ev_var rfl) ea_nil)) (use_has_flow hc)))) (fun hb H1 e1 => ?_) (fun hb H1 e1 => ?_)
    · refine s_code (k.err n e1 (code := -2) (if_pos ?_))
      rw [spec_flows_len]
      simpa using hb
    · have hi : i < c.flows.length := by simpa using hb
      have x1 : ¬ (c.spec.flows.length ≤ i) := by rw [spec_flows_len]; omega
      have hg := List.getElem?_eq_getElem hi
      generalize c.flows[i] = g at hg
      have hc1 := hc.mono e1
      have hgl := NtC.hFl hc hg
      have hgo := (wf_of o).2.2 g (List.mem_of_getElem? hg)
      refine q_asg (evF3 T (hgl.mono e1) (ev_ixR (K := K) (evN2 T hc1 (ev_var rfl)) (ev_var rfl) (sq_of (NtC.hF hc1)) hg)) fun H2 e2 => ?_
      have e02 := e1.trans e2
      have hP : ∀ H', Ex H H' → H' g.pa = some (.lst g.prefs) := fun H' e => e _ _ (FlC.hP hgl)
      refine q_asgL (el_lst (ea_cons (ev_lenN' (K := K) (ev_var rfl) (sq_of (hP H2 e02))) ea_nil) (by show 1 ≤ 100000; decide)) fun to H3 nto e3 hto => ?_
      have e03 := e02.trans e3
      have nto0 : H to = none := fresh_back e02 nto
      refine q_forLn (a := g.pa) (xs := g.prefs) (ev_var rfl) (sq_of (hP H3 e03)) (fun j σ' H' => (∃ y4, σ' = [some (.ref c.a), some (.int i), some (.ref g.pa), some (.ref to), y4]) ∧ Ex H H' ∧ H' to = some (.lst (nats (g.paths.length :: pathRow (g.paths.take j)))))
        (fun H4 e4 => ⟨⟨none, rfl⟩, e03.trans e4, e4 _ _ hto⟩) (fun j σ' H' _ p => sq_of (hP H' p.2.1)) ?_ ?_
      · rintro j x σ' H' hx ⟨⟨y4, rfl⟩, e4, hl⟩
        obtain ⟨pp, hpp, rfl⟩ := refs_get hx
        have hjl := (List.getElem?_eq_some_iff.mp hpp).1
        have few := hgo.few
        have hlen := pathRow_len (g.paths.take j) fun p hp => (hgo.sh p (List.mem_of_mem_take hp)).1
        have htk := List.length_take_le' j g.paths
        have hpl := (hgo.sh pp (List.mem_of_getElem? hpp)).1
        have hp4 := FlC.hPa (hgl.mono e4) hpp
        refine q_app (xs := nats (g.paths.length :: pathRow (g.paths.take j))) hl (ev_var rfl) (ev_lenN' (K := K) (evP0 T hp4 (ev_var rfl)) (sq_of (PaC.hN hp4))) (by rw [nats_len, List.length_cons]; omega) fun H5 e5 => ?_
        have e06 : Ex H (upd H5 to (.lst (nats (g.paths.length :: pathRow (g.paths.take j)) ++ [.int (pp.nodes.length : Nat)]))) := Ex.mut (e4.trans e5) nto0
        have hp6 := FlC.hPa (hgl.mono e06) hpp
        refine s_ext (xs := nats (g.paths.length :: pathRow (g.paths.take j)) ++ [.int (pp.nodes.length : Nat)]) (zs := nats pp.nodes) upd_same (PaC.hN hp6) (ev_var rfl) (evP0 T hp6 (ev_var rfl)) (by
          refine sz_of ?_
          rw [List.length_append, nats_len, nats_len, List.length_cons, List.length_singleton]
          omega) fun H7 e7 => ?_
        refine ⟨⟨_, rfl⟩, Ex.mut (e06.trans e7) nto0, ?_⟩
        rw [upd_same]
        refine congrArg (fun z => some (HO.lst z)) ?_
        unfold pathRow
        rw [flat_take _ hpp]
        show (nats (g.paths.length :: List.flatMap _ _) ++ [.int (pp.nodes.length : Nat)]) ++ nats pp.nodes = nats ((g.paths.length :: List.flatMap _ _) ++ (pp.nodes.length :: pp.nodes))
        unfold nats
        rw [List.map_append (l₁ := g.paths.length :: _), List.append_assoc]
        rfl
      · rintro σ' H' ⟨⟨y4, rfl⟩, e4, hl⟩
        rw [List.length_map, List.take_length] at hl
        refine s_ret (ev_var rfl) fun H5 e5 => ?_
        refine k.stay (r := Su203.ok g.paths.length (pathRow g.paths)) n (Ex.refl H) ?_ to H5 nto0 (e4.trans e5) (e5 _ _ hl)
        refine (if_neg x1).trans ?_
        rw [flow_of hg]
        refine congrArg (fun z => (c.spec, z)) ?_
        show Su203.ok (g.paths.map (·.nodes)).length ((g.paths.map (·.nodes)).flatMap fun l => l.length :: l) = _
        rw [List.length_map, List.flatMap_map]
        rfl
/-! ### tell_totals -/
def sp_tell_totals (A : Adr) : Sp := fun vs H Q _ => ∃ (c : NtC), vs = [.ref c.a] ∧ Net A H c ∧ SpOk c.spec ∧ After A H c .totals [] Q
def demTo (w : Su203.Network) (i : Nat) : Nat := ((List.range i).map fun f => if w.assignment.getD f 0 = 0 then 0 else (w.flow f).demand).sum
theorem demTo_succ (w : Su203.Network) (i : Nat) : demTo w (i + 1) = demTo w i + if w.assignment.getD i 0 = 0 then 0 else (w.flow i).demand := by
  unfold demTo
  rw [List.range_succ, List.map_append, List.sum_append]
  show _ + (_ + 0) = _
  rw [Nat.add_zero]
theorem ok_tell_totals (T : Txt K mg A) {f : Addr} {fd : FuncData} (F : Fun K "tell_totals" "tell_totals" s_tell_totals f fd) (g : mg "tell_totals" = some (.ref f)) (b : Binds K fd ["network"] []) : Cal P w K mg base 1 "tell_totals" (sp_tell_totals A) := by
  refine ⟨f, fd, _, [], F.ok sc_tell_totals (fun vs H Q E h => ?_) (fun cdv A' outer s H vs Q E hr h => ?_), g, F.kp, b, .nil⟩
  · obtain ⟨c, rfl, _⟩ := h
    rfl
  · obtain ⟨c, rfl, n, o, k⟩ := h
    refine ⟨_, (pss_cons (ps_set (i := 1) sc_tell_totals.nd rfl (.inl rfl) pe_int) (pss_cons (ps_for PassesOwn.never rfl (pi_zip (by rfl) T.b_zip (pa_cons (pe_fld (pv 0) rfl) (pa_cons (pe_fld (pv 0) rfl) pa_nil))) (pg_tup rfl (pgs_cons (pg_name (i := 2) sc_tell_totals.nd rfl (.inl rfl)) (pgs_cons (pg_name (i := 3) sc_tell_totals.nd rfl (.inl rfl)) pgs_nil))) (pss_one (ps_if (pt_cmpR op_gt (pv 3) pe_int (nomark _)) (pss_one (ps_aug (i := 1) sc_tell_totals.nd rfl (.inl rfl) (pe_fld (pv 2) rfl) ip_add)) pss_nil))) (pss_one (ps_ret (pe_lst (pa_cons (pe_fld (pv 0) rfl) (pa_cons (pe_callB call_len_seq (by rfl) T.b_len PySem.boot_len (pa_cons (pe_fld (pv 0) rfl) pa_nil)) (pa_cons (pe_callB call_len_seq (by rfl) T.b_len PySem.boot_len (pa_cons (pe_fld (pv 0) rfl) pa_nil)) (pa_cons (pv 1) pa_nil))))))))), ?_⟩
    have hc := n.hold
    have ft := fits_of o
    refine q_asg (ev_nat 0) fun H1 e1 => ?_
    have hc1 := hc.mono e1
    have hF : ∀ H', Ex H H' → SqL K H' c.fa c.frefs := fun H' e => sq_of (e _ _ (NtC.hF hc))
    have hS : ∀ H', Ex H H' → SqL K H' c.sa (nats c.asg) := fun H' e => sq_of (e _ _ (NtC.hS hc))
    refine q_forZo (a := c.fa) (b := c.sa) (xs := c.frefs) (ys := nats c.asg) (ea_cons (evN2 T hc1 (ev_var rfl)) (ea_cons (evN3 T hc1 (ev_var rfl)) ea_nil)) (hF _ e1) (hS _ e1)
      (fun i σ' H' => (∃ y2 y3, σ' = [some (.ref c.a), some (.int (demTo c.spec i : Nat)), y2, y3]) ∧ Ex H H')
      (fun H2 e2 => ⟨⟨none, none, rfl⟩, e1.trans e2⟩) (fun i σ' H' p => ⟨hF H' p.2, hS H' p.2⟩) ?_ ?_
    · rintro i x y σ' H' hx hy ⟨⟨y2, y3, rfl⟩, e2⟩ H2 e3
      obtain ⟨g, hg, rfl⟩ := refs_get hx
      obtain ⟨ch, hch, rfl⟩ := nats_at hy
      have hgl := NtC.hFl hc hg
      have hgD : c.spec.assignment.getD i 0 = ch := getD_of hch
      have e03 := e2.trans e3
      refine s_when (b := decide (0 < ch)) (et_test (ev_gtN (ev_var rfl) (ev_nat 0))) (fun hb H3 e4 => ?_) (fun hb H3 e4 => ?_)
      · have h0 := of_decide_eq_true hb
        refine s_aug (f := fun i j => i + j) (a := ((demTo c.spec i : Nat) : Int)) (b := ((g.d : Nat) : Int)) rfl (evF2 T (hgl.mono (e03.trans e4)) (ev_var rfl)) fun H4 e5 => ?_
        refine ⟨⟨some (.ref g.a), some (.int (ch : Int)), ?_⟩, (e03.trans e4).trans e5⟩
        rw [demTo_succ, hgD, if_neg (by omega), flow_of hg]
        rfl
      · have h0 : ch = 0 := by have := of_decide_eq_false hb; omega
        refine ⟨⟨some (.ref g.a), some (.int (ch : Int)), ?_⟩, e03.trans e4⟩
        rw [demTo_succ, hgD, if_pos h0]
        rfl
    · rintro σ' H' ⟨⟨y2, y3, rfl⟩, e2⟩
      rw [List.length_map, nats_len, ft.1, Nat.min_self]
      have hc2 := hc.mono e2
      refine s_retL (el_lst (ea_cons (evN0 T hc2 (ev_var rfl)) (ea_cons (ev_lenN' (K := K) (evN1 T hc2 (ev_var rfl)) (sq_of (NtC.hL hc2))) (ea_cons (ev_lenN' (K := K) (evN2 T hc2 (ev_var rfl)) (sq_of (NtC.hF hc2))) (ea_cons (ev_var rfl) ea_nil)))) (by show 4 ≤ 100000; decide)) fun p H3 hp e3 hl => ?_
      refine k.stay (r := Su203.ok c.n [c.links.length, c.flows.length, demTo c.spec c.flows.length]) n e2 ?_ p H3 hp e3 hl
      show (c.spec, Su203.ok c.spec.nodes [c.spec.links.length, c.spec.flows.length, (c.spec.flowIndices.map _).sum]) = _
      unfold Su203.Network.flowIndices
      rw [spec_links_len, spec_flows_len]
      rfl
end
end Fm

set_option Elab.async false
set_option linter.all false
set_option maxRecDepth 100000
set_option maxHeartbeats 4000000
/-! The calls read out of the one list. -/
namespace Fm
open C8 (pe_c pe_mk pe_gc)
open PySem PySem.Spec PyProof.Rows L2 Evl FmS
structure ClC where
  a : Addr
  dx : Addr
  na : Addr
  ra : Addr
  c : PC
def ClC.fs (k : ClC) : List (Str × V) := [("operation", .int k.c.op), ("numbers", .ref k.na), ("row", .ref k.ra)]
def ClC.cells (A : Adr) (k : ClC) : Cells := [(k.a, .ins A.cCall k.dx k.fs), (k.na, .lst (nats k.c.nums)), (k.ra, .lst (nats k.c.row))]
abbrev crefs (l : List ClC) : List V := l.map fun k => .ref k.a
abbrev ccells (A : Adr) (l : List ClC) : Cells := l.flatMap (ClC.cells A)
theorem ClC.f0 (k : ClC) : k.fs.lookup ("operation" : Str) = some (.int k.c.op) := lk_here
theorem ClC.f1 (k : ClC) : k.fs.lookup ("numbers" : Str) = some (.ref k.na) := lk_past1 (by decide +kernel) lk_here
theorem ClC.f2 (k : ClC) : k.fs.lookup ("row" : Str) = some (.ref k.ra) := lk_past1 (by decide +kernel) (lk_past1 (by decide +kernel) lk_here)
/-! ### pieces of a list -/
theorem piece_at {pre post : List Nat} {x : Nat} : (pre ++ x :: post)[pre.length]? = some x := by
  rw [List.getElem?_append_right (Nat.le_refl _), Nat.sub_self]
  rfl
theorem cut_piece {pre a post : List Nat} : cutV (nats (pre ++ (a ++ post))) (some ((pre.length : Nat) : Int)) (some ((pre.length + a.length : Nat) : Int)) = nats a := by
  unfold cutV
  rw [nats_len, HT.sIx_nat, HT.sIx_nat, List.length_append, List.length_append, Nat.min_eq_left (by omega), Nat.min_eq_left (by omega), nats_drop, List.drop_append_of_le_length (Nat.le_refl _), List.drop_length, List.nil_append, Nat.add_sub_cancel_left]
  unfold nats
  rw [← List.map_take, List.take_append_of_le_length (Nat.le_refl _), List.take_length]
section
variable {P : Program} {w : World} {K : PySem.W.Frag} {mg : Str → Option Value} {base : Heap} {A : Adr} {H H1 : Hp}
def sp_Call (A : Adr) : Sp := fun vs H Q _ => ∃ (p dx na ra : Addr) (op : Nat), vs = [.ref p, .int op, .ref na, .ref ra] ∧ H p = some (.ins A.cCall dx []) ∧ ∀ H', H' = upd H p (.ins A.cCall dx [("operation", .int op), ("numbers", .ref na), ("row", .ref ra)]) → Q .non H'
theorem ok_Call_init (T : Txt K mg A) {f : Addr} {fd : FuncData} (F : Fun K "__init__" "Call.__init__" s_Call_init f fd) (M : Mk K A.cCall f) (g : mg "Call" = some (.ref A.cCall)) (b : Binds K fd ["self", "operation", "numbers", "row"] []) : Mak P w K mg base 1 "Call" A.cCall (sp_Call A) := by
  refine ⟨f, fd, _, [], M, F.ok sc_Call_init (fun vs H Q E h => ?_) (fun cdv A' outer s H vs Q E hr h => ?_), g, b, .nil⟩
  · obtain ⟨p, dx, na, ra, op, rfl, _⟩ := h
    rfl
  · obtain ⟨p, dx, na, ra, op, rfl, hp, k⟩ := h
    refine ⟨_, (pss_cons (ps_fld (pv 0) (pv 1) rfl) (pss_cons (ps_fld (pv 0) (pv 2) rfl) (pss_one (ps_fld (pv 0) (pv 3) rfl)))), ?_⟩
    refine ⟨_, rfl, _, rfl, p, _, dx, _, rfl, hp, T.kCall, T.nCall_operation, (by show 0 < 1000; decide), ?_⟩
    refine ⟨_, rfl, _, rfl, p, _, dx, _, rfl, upd_same, T.kCall, T.nCall_numbers, (by show 1 < 1000; decide), ?_⟩
    refine ⟨_, rfl, _, rfl, p, _, dx, _, rfl, upd_same, T.kCall, T.nCall_row, (by show 2 < 1000; decide), ?_⟩
    refine k _ ?_
    rw [upd_upd, upd_upd]
    congr 2
theorem new_Call {σ : L2.St} {ta : TA} {op : Nat} {na ra : Addr} (h : EvA ta σ H [.int op, .ref na, .ref ra]) : EvNew (tMake A.cCall (sp_Call A) [] E0 ta) σ H (fun x _ H2 => ∃ dx, H2 x = some (.ins A.cCall dx [("operation", .int op), ("numbers", .ref na), ("row", .ref ra)])) := fun H1 e Q q =>
  h H1 e _ fun H0 e0 => fun x dx nx nd ne => ⟨x, dx, na, ra, op, rfl, upd_same, fun H' hH' => ⟨rfl, q x H' (fresh_back e0 nx) (e0.trans (by
    subst hH'
    exact fun b o hb => by
      rw [upd_ne (ne_of_none hb nx), upd_ne (ne_of_none hb nx), upd_ne (ne_of_none hb nd)]
      exact hb)) ⟨dx, by subst hH'; exact upd_same⟩⟩⟩
theorem flats_len : ∀ (l : List PC), l.length ≤ (l.flatMap PC.flat).length
  | [] => Nat.zero_le _
  | d :: r => by
    rw [List.flatMap_cons, List.length_append, List.length_cons]
    have := flat_pos d
    have := flats_len r
    omega
/-! ### read_calls -/
def sp_read_calls (K : PySem.W.Frag) (A : Adr) : Sp := fun vs H Q _ => ∃ (ca : Addr) (pcs : List PC), vs = [.ref ca] ∧ SqL K H ca (nats (pcs.flatMap PC.flat)) ∧ (pcs.flatMap PC.flat).length ≤ 4400 ∧ (∀ c ∈ pcs, c.Ok) ∧
  ∀ H' p (cl : List ClC), Ex H H' → H p = none → H' p = some (.lst (crefs cl)) → cl.map (·.c) = pcs → Own H' (ccells A cl) → (∀ b ∈ keysOf (ccells A cl), H b = none) → p ∉ keysOf (ccells A cl) → Q (.ref p) H'
/-- what stands between two turns -/
def RdInv (A : Adr) (H : Hp) (ca fo : Addr) (pcs : List PC) (m : Nat) (σ : L2.St) (H' : Hp) : Prop := ∃ (done rem : List PC) (cl : List ClC) (y3 y4 y5 y6 : Option V), pcs = done ++ rem ∧ m = rem.length ∧
  σ = [some (.ref ca), some (.ref fo), some (.int ((done.flatMap PC.flat).length : Nat)), y3, y4, y5, y6] ∧ H' fo = some (.lst (crefs cl)) ∧ cl.map (·.c) = done ∧ Own H' (ccells A cl) ∧ (∀ b ∈ keysOf (ccells A cl), H b = none) ∧ fo ∉ keysOf (ccells A cl) ∧ Ex H H'
theorem ccells_app (l : List ClC) (k : ClC) : ccells A (l ++ [k]) = ccells A l ++ k.cells A := by
  show List.flatMap _ _ = _
  rw [List.flatMap_append, List.flatMap_cons, List.flatMap_nil, List.append_nil]
theorem ok_read_calls (T : Txt K mg A) (m_Call : Mak P w K mg base 1 "Call" A.cCall (sp_Call A)) {f : Addr} {fd : FuncData} (F : Fun K "read_calls" "read_calls" s_read_calls f fd) (g : mg "read_calls" = some (.ref f)) (b : Binds K fd ["calls"] []) : Cal P w K mg base 3 "read_calls" (sp_read_calls K A) := by
  refine ⟨f, fd, _, [], F.ok sc_read_calls (fun vs H Q E h => ?_) (fun cdv A' outer s H vs Q E hr h => ?_), g, F.kp, b, .nil⟩
  · obtain ⟨ca, pcs, rfl, _⟩ := h
    rfl
  · obtain ⟨ca, pcs, rfl, hca, hlen, hok, k⟩ := h
    obtain ⟨ct, h_NUMBER_COUNTS, hcs⟩ := T.c_NUMBER_COUNTS
    refine ⟨_, (pss_cons (ps_set (i := 1) sc_read_calls.nd rfl (.inl rfl) (pe_lst pa_nil)) (pss_cons (ps_set (i := 2) sc_read_calls.nd rfl (.inl rfl) pe_int) (pss_cons (ps_while PassesOwn.never (pt_cmpR op_lt (pv 2) (pe_callB call_len_seq (by rfl) T.b_len PySem.boot_len (pa_cons (pv 0) pa_nil)) (nomark _)) (pss_cons (ps_set (i := 3) sc_read_calls.nd rfl (.inl rfl) (pe_ix ix_list (pv 0) (pv 2) (fun _ _ => rfl))) (pss_cons (ps_set (i := 4) sc_read_calls.nd rfl (.inl rfl) (pe_op op_add (pv 2) pe_int)) (pss_cons (ps_set (i := 2) sc_read_calls.nd rfl (.inl rfl) (pe_op op_add (pv 4) (pe_ix ix_tup (pe_gc rfl h_NUMBER_COUNTS) (pv 3) (fun _ _ => rfl)))) (pss_cons (ps_set (i := 5) sc_read_calls.nd rfl (.inl rfl) (pe_slice sl_list (pv 0) (po_some (pv 4)) (po_some (pv 2)))) (pss_cons (ps_set (i := 6) sc_read_calls.nd rfl (.inl rfl) (pe_lst pa_nil)) (pss_cons (ps_if (pt_cmpR op_in_seq (pv 3) (pe_tup (pa_cons (pe_gc rfl T.c_ADD_PATH) (pa_cons (pe_gc rfl T.c_PLAN_TO) pa_nil))) (by rfl)) (pss_cons (ps_set (i := 4) sc_read_calls.nd rfl (.inl rfl) (pe_op op_add (pv 2) pe_int)) (pss_cons (ps_set (i := 2) sc_read_calls.nd rfl (.inl rfl) (pe_op op_add (pv 4) (pe_ix ix_list (pv 0) (pv 2) (fun _ _ => rfl)))) (pss_one (ps_set (i := 6) sc_read_calls.nd rfl (.inl rfl) (pe_slice sl_list (pv 0) (po_some (pv 4)) (po_some (pv 2))))))) pss_nil) (pss_one (ps_expr (pe_bm PySem.F.plainAttrs_list PySem.F.slot_list_append PySem.F.type_list_append mt_append (pv 1) (pa_cons (pe_mk m_Call hr (by decide) rfl (pa_cons (pv 3) (pa_cons (pv 5) (pa_cons (pv 6) pa_nil)))) pa_nil))))))))))) (pss_one (ps_ret (pv 1)))))), ?_⟩
    refine q_asgL (el_lst ea_nil (Nat.zero_le _)) fun fo H1 nfo e1 hfo => ?_
    refine q_asg (ev_nat 0) fun H2 e2 => ?_
    refine q_while (RdInv A H ca fo pcs) pcs.length ⟨[], pcs, [], none, none, none, none, rfl, rfl, rfl, e2 _ _ hfo, rfl, ⟨fun p hp => (List.not_mem_nil hp).elim, List.nodup_nil⟩, fun b hb => (List.not_mem_nil hb).elim, fun hb => (List.not_mem_nil hb).elim, e1.trans e2⟩ ?_
    rintro m σ' H' ⟨done, rem, cl, y3, y4, y5, y6, hp, rfl, rfl, hl, hcl, own, fresh, nk, eh⟩
    have hL : pcs.flatMap PC.flat = done.flatMap PC.flat ++ rem.flatMap PC.flat := by rw [hp, List.flatMap_append]
    refine ⟨decide ((done.flatMap PC.flat).length < (pcs.flatMap PC.flat).length), et_test (ev_ltN (ev_var rfl) (ev_lenN' (K := K) (ev_var rfl) (ex_l eh hca))), fun hb H3 e3 => ?_, fun hb H3 e3 => ?_⟩
    · cases rem with
      | nil =>
        have := of_decide_eq_true hb
        rw [hL] at this
        simp at this
      | cons c rem =>
        have hc : c ∈ pcs := by rw [hp]; exact List.mem_append_right _ (.head _)
        have cok := hok c hc
        -- where the pieces of the call stand
        let pre := done.flatMap PC.flat
        let post := rem.flatMap PC.flat
        let tl : List Nat := if hasRow c.op = true then c.row.length :: c.row else []
        have l1 : pcs.flatMap PC.flat = pre ++ c.op :: (c.nums ++ (tl ++ post)) := by
          rw [hL, List.flatMap_cons]
          show pre ++ ((c.op :: (c.nums ++ tl)) ++ post) = _
          rw [List.cons_append, List.append_assoc]
        have l2 : pcs.flatMap PC.flat = (pre ++ [c.op]) ++ (c.nums ++ (tl ++ post)) := by
          rw [l1, List.append_assoc]
          rfl
        have eh3 := eh.trans e3
        have hca3 : SqL K H3 ca (nats (pcs.flatMap PC.flat)) := ex_l eh3 hca
        have pl : (pre ++ [c.op]).length = pre.length + 1 := by rw [List.length_append]; rfl
        refine ⟨fun σ2 H2 => ∃ m', m' < (c :: rem).length ∧ RdInv A H ca fo pcs m' σ2 H2, fun σ2 H2 h => h, ?_⟩
        -- operation = calls[position]
        refine q_asg (ev_ixN (K := K) (ev_var rfl) (ev_var rfl) hca3 (by rw [l1]; exact piece_at)) fun H4 e4 => ?_
        -- start = position + 1
        refine q_asg (ev_addN (ev_var rfl) (ev_nat 1)) fun H5 e5 => ?_
        -- position = start + NUMBER_COUNTS[operation]
        have cnt : ([.int 1, .int 3, .int 3, .int 1, .int 2, .int 1, .int 2, .int 2, .int 0, .int 0, .int 0, .int 0, .int 1, .int 1, .int 1, .int 0, .int 0, .int 1, .int 1, .int 0] : List V)[c.op]? = some (.int ((c.nums.length : Nat) : Int)) := by
          have h2 := cok.2.1
          have e : ([.int 1, .int 3, .int 3, .int 1, .int 2, .int 1, .int 2, .int 2, .int 0, .int 0, .int 0, .int 0, .int 1, .int 1, .int 1, .int 0, .int 0, .int 1, .int 1, .int 0] : List V) = counts.map fun n => V.int ((n : Nat) : Int) := rfl
          rw [e, List.getElem?_map, h2]
          rfl
        refine q_asg (ev_addN (ev_var rfl) (ev_ixT (K := K) ev_c (ev_var rfl) (hcs _) cnt)) fun H6 e6 => ?_
        -- numbers = calls[start:position]
        have eh6 := ((eh3.trans e4).trans e5).trans e6
        have sl := el_sl (K := K) (σ := [some (.ref ca), some (.ref fo), some (.int ((pre.length + 1 + c.nums.length : Nat) : Int)), some (.int ((c.op : Nat) : Int)), some (.int ((pre.length + 1 : Nat) : Int)), y5, y6]) (ev_var (i := 0) rfl) (eo_some (ev_var (i := 4) rfl)) (eo_some (ev_var (i := 2) rfl)) (ex_l eh6 hca)
        rw [show cutV (nats (pcs.flatMap PC.flat)) (some ((pre.length + 1 : Nat) : Int)) (some ((pre.length + 1 + c.nums.length : Nat) : Int)) = nats c.nums by
          rw [l2, ← pl]
          exact cut_piece] at sl
        refine q_asgL sl fun na H7 nna e7 hna => ?_
        -- row = []
        refine q_asgL (el_lst ea_nil (Nat.zero_le _)) fun r0 H8 nr0 e8 hr0 => ?_
        have eh8 := (eh6.trans e7).trans e8
        -- found.append(Call(operation, numbers, row)): whatever the row
        have fin : ∀ (pos st : Option V) (ra : Addr) (H9 : Hp), Ex H8 H9 → H9 ra = some (.lst (nats c.row)) → H7 ra = none → pos = some (.int (((done ++ [c]).flatMap PC.flat).length : Nat)) →
            tDrop (tBM K "list" rAppend (tVar 1) (tCons (tMake A.cCall (sp_Call A) [] E0 (tCons (tVar 3) (tCons (tVar 5) (tCons (tVar 6) tNil)))) tNil)) { nx := fun σ2 H2 => ∃ m', m' < (c :: rem).length ∧ RdInv A H ca fo pcs m' σ2 H2, rt := Q, bk := tRet (tVar 1) { nx := fun _ H' => Q .non H', rt := Q }, ct := fun σ2 H2 => ∃ m', m' < (c :: rem).length ∧ RdInv A H ca fo pcs m' σ2 H2 }
              [some (.ref ca), some (.ref fo), pos, some (.int ((c.op : Nat) : Int)), st, some (.ref na), some (.ref ra)] H9 := fun pos st ra H9 e9 hra nra hpos => by
          have ehn9 : Ex H' H9 := (((((e3.trans e4).trans e5).trans e6).trans e7).trans e8).trans e9
          have hcl9 : cl.length ≤ 4400 := by
            have q : cl.length = done.length := by rw [← hcl, List.length_map]
            have q2 := flats_len done
            have q3 : (done.flatMap PC.flat).length ≤ (pcs.flatMap PC.flat).length := by rw [hL, List.length_append]; omega
            omega
          refine s_appN (xs := crefs cl) (ehn9 _ _ hl) (ev_var rfl) (new_Call (op := c.op) (na := na) (ra := ra) (ea_cons (ev_var rfl) (ea_cons (ev_var rfl) (ea_cons (ev_var rfl) ea_nil)))) (by rw [List.length_map]; omega) fun x Ha Hb ea nx eb hx => ?_
          obtain ⟨dx, hx⟩ := hx
          let k : ClC := ⟨x, dx, na, ra, c⟩
          have e9b := ea.trans eb
          have eHb : Ex H' Hb := ehn9.trans e9b
          have nxH' : H' x = none := fresh_back (ehn9.trans ea) nx
          have fo9 := ehn9 _ _ hl
          have xfo : x ≠ fo := (ne_of_none (ea _ _ fo9) nx).symm
          have e38 : Ex H' H6 := ((e3.trans e4).trans e5).trans e6
          have nafo : na ≠ fo := (ne_of_none (e38 _ _ hl) nna).symm
          have rafo : ra ≠ fo := (ne_of_none ((e38.trans e7) _ _ hl) nra).symm
          have nax : na ≠ x := ne_of_none (((e8.trans e9).trans ea) _ _ hna) nx
          have rax : ra ≠ x := ne_of_none (ea _ _ hra) nx
          have nara : na ≠ ra := ne_of_none hna nra
          refine ⟨rem.length, Nat.lt_succ_self _, done ++ [c], rem, cl ++ [k], some (.int ((c.op : Nat) : Int)), st, some (.ref na), some (.ref ra), by rw [hp, List.append_assoc]; rfl, rfl, by rw [hpos], ?_, by rw [List.map_append, hcl]; rfl, ?_, ?_, ?_, Ex.mut (eh.trans eHb) ?_⟩
          · rw [upd_same]
            show _ = some (HO.lst ((cl ++ [k]).map fun k => V.ref k.a))
            rw [List.map_append]
            rfl
          · rw [ccells_app]
            have o1 : Own (upd Hb fo (.lst (crefs cl ++ [.ref x]))) (ccells A cl) := ⟨fun p hp => by
              rw [upd_ne (fun z => nk (by rw [← z]; exact List.mem_map_of_mem hp))]
              exact eHb _ _ (own.hold p hp), own.nd⟩
            have o2 : Own (upd Hb fo (.lst (crefs cl ++ [.ref x]))) (k.cells A) := ⟨fun p hp => by
              have hp' : p ∈ ([(x, HO.ins A.cCall dx k.fs), (na, .lst (nats c.nums)), (ra, .lst (nats c.row))] : Cells) := hp
              simp only [List.mem_cons, List.not_mem_nil, or_false] at hp'
              rcases hp' with rfl | rfl | rfl
              · rw [upd_ne xfo]
                exact hx
              · rw [upd_ne nafo]
                exact e9b _ _ (e9 _ _ (e8 _ _ hna))
              · rw [upd_ne rafo]
                exact e9b _ _ hra, by
              show ([x, na, ra] : List Addr).Nodup
              simp only [List.nodup_cons, List.mem_cons, List.not_mem_nil, or_false, not_or, List.nodup_nil, and_true, not_false_eq_true]
              exact ⟨⟨nax.symm, rax.symm⟩, nara⟩⟩
            refine (o1.add o2 fun b hb z => ?_).perm List.perm_append_comm
            have hb' : b ∈ ([x, na, ra] : List Addr) := hb
            simp only [List.mem_cons, List.not_mem_nil, or_false] at hb'
            rcases hb' with rfl | rfl | rfl
            · exact (own.hold.mono (ehn9.trans ea)).fresh nx z
            · exact (own.hold.mono e38).fresh nna z
            · exact (own.hold.mono (e38.trans e7)).fresh nra z
          · intro b hb
            rw [ccells_app] at hb
            unfold keysOf at hb
            rw [List.map_append, List.mem_append] at hb
            rcases hb with hb | hb
            · exact fresh b hb
            · have hb' : b ∈ ([x, na, ra] : List Addr) := hb
              simp only [List.mem_cons, List.not_mem_nil, or_false] at hb'
              rcases hb' with rfl | rfl | rfl
              · exact fresh_back (eh.trans (ehn9.trans ea)) nx
              · exact fresh_back eh6 nna
              · exact fresh_back (eh6.trans e7) nra
          · intro hb
            rw [ccells_app] at hb
            unfold keysOf at hb
            rw [List.map_append, List.mem_append] at hb
            rcases hb with hb | hb
            · exact nk hb
            · have hb' : fo ∈ ([x, na, ra] : List Addr) := hb
              simp only [List.mem_cons, List.not_mem_nil, or_false] at hb'
              rcases hb' with z | z | z
              · exact xfo z.symm
              · exact nafo z.symm
              · exact rafo z.symm
          · exact nfo
        -- if operation in (ADD_PATH, PLAN_TO)
        have rin : Ev (tOp (rIn K false) (tVar 3) (tTup (tCons (tC (.int 3)) (tCons (tC (.int 11)) tNil)))) [some (.ref ca), some (.ref fo), some (.int ((pre.length + 1 + c.nums.length : Nat) : Int)), some (.int ((c.op : Nat) : Int)), some (.int ((pre.length + 1 : Nat) : Int)), some (.ref na), some (.ref r0)] H8 (.bl (hasRow c.op)) := by
          have r := ev_inU (K := K) (σ := [some (.ref ca), some (.ref fo), some (.int ((pre.length + 1 + c.nums.length : Nat) : Int)), some (.int ((c.op : Nat) : Int)), some (.int ((pre.length + 1 : Nat) : Int)), some (.ref na), some (.ref r0)]) (H := H8) (ev_var (i := 3) rfl) (eu_tup (ea_cons (ev_nat 3) (ea_cons (ev_nat 11) ea_nil)) (by show 2 ≤ 100000; decide)) rfl rfl
          rw [inV_two] at r
          have e : (3 == c.op || 11 == c.op) = hasRow c.op := by
            unfold hasRow
            rw [Bool.eq_iff_iff]
            simp only [Bool.or_eq_true, beq_iff_eq]
            exact ⟨fun z => z.imp Eq.symm Eq.symm, fun z => z.imp Eq.symm Eq.symm⟩
          rw [e] at r
          exact r
        refine q_when (b := hasRow c.op) (et_test rin) (fun hr H9 e9 => ?_) (fun hr H9 e9 => ?_)
        · skip
          have tl1 : tl = c.row.length :: c.row := if_pos hr
          have l3 : pcs.flatMap PC.flat = ((pre ++ [c.op]) ++ c.nums) ++ (c.row.length :: (c.row ++ post)) := by
            rw [l2, tl1, ← List.append_assoc]
            rfl
          have l4 : pcs.flatMap PC.flat = (((pre ++ [c.op]) ++ c.nums) ++ [c.row.length]) ++ (c.row ++ post) := by
            rw [l3, List.append_assoc _ [c.row.length]]
            rfl
          have p3 : ((pre ++ [c.op]) ++ c.nums).length = pre.length + 1 + c.nums.length := by rw [List.length_append, pl]
          have p4 : (((pre ++ [c.op]) ++ c.nums) ++ [c.row.length]).length = pre.length + 1 + c.nums.length + 1 := by rw [List.length_append, p3]; rfl
          refine q_asg (ev_addN (ev_var rfl) (ev_nat 1)) fun Ha ea => ?_
          have eha := (eh8.trans e9).trans ea
          refine q_asg (ev_addN (ev_var rfl) (ev_ixN (K := K) (ev_var rfl) (ev_var rfl) (ex_l eha hca) (by rw [l3, ← p3]; exact piece_at))) fun Hb eb => ?_
          have ehb := eha.trans eb
          have sl2 := el_sl (K := K) (σ := [some (.ref ca), some (.ref fo), some (.int ((pre.length + 1 + c.nums.length + 1 + c.row.length : Nat) : Int)), some (.int ((c.op : Nat) : Int)), some (.int ((pre.length + 1 + c.nums.length + 1 : Nat) : Int)), some (.ref na), some (.ref r0)]) (ev_var (i := 0) rfl) (eo_some (ev_var (i := 4) rfl)) (eo_some (ev_var (i := 2) rfl)) (ex_l ehb hca)
          rw [show cutV (nats (pcs.flatMap PC.flat)) (some ((pre.length + 1 + c.nums.length + 1 : Nat) : Int)) (some ((pre.length + 1 + c.nums.length + 1 + c.row.length : Nat) : Int)) = nats c.row by
            rw [l4, ← p4]
            exact cut_piece] at sl2
          refine s_asgL sl2 fun ra Hc nra ec hra => ?_
          refine fin _ _ ra Hc (((e9.trans ea).trans eb).trans ec) hra (fresh_back (((e8.trans e9).trans ea).trans eb) nra) ?_
          refine congrArg (fun z : Nat => some (V.int (z : Int))) ?_
          rw [List.flatMap_append, List.flatMap_cons, List.flatMap_nil, List.append_nil, List.length_append]
          show pre.length + 1 + c.nums.length + 1 + c.row.length = pre.length + (c.op :: (c.nums ++ tl)).length
          rw [tl1, List.length_cons, List.length_append, List.length_cons]
          omega
        · have hrow := cok.2.2 hr
          have tl1 : tl = [] := by
            show (if hasRow c.op = true then _ else _) = _
            rw [hr]
            rfl
          refine fin _ _ r0 H9 e9 (by rw [hrow]; exact e9 _ _ hr0) nr0 ?_
          refine congrArg (fun z : Nat => some (V.int (z : Int))) ?_
          rw [List.flatMap_append, List.flatMap_cons, List.flatMap_nil, List.append_nil, List.length_append]
          show pre.length + 1 + c.nums.length = pre.length + (c.op :: (c.nums ++ tl)).length
          rw [tl1, List.length_cons, List.length_append, List.length_nil]
          omega
    · have hrem : rem = [] := by
        cases rem with
        | nil => rfl
        | cons c r =>
          have := of_decide_eq_false hb
          rw [hL, List.flatMap_cons, List.length_append, List.length_append] at this
          have := flat_pos c
          omega
      subst hrem
      rw [List.append_nil] at hp
      refine s_ret (ev_var rfl) fun H4 e4 => ?_
      refine k H4 fo cl ((eh.trans e3).trans e4) nfo ((e3.trans e4) _ _ hl) (hcl.trans hp.symm) (own.ex (e3.trans e4)) fresh nk
end
end Fm

set_option Elab.async false
set_option linter.all false
set_option maxRecDepth 100000
set_option maxHeartbeats 4000000
/-! One call answered. -/
namespace Fm
open C8 (pe_c pe_mk pe_gc)
open PySem PySem.Spec PyProof.Rows L2 Evl FmS
section
variable {A : Adr} {H H1 : Hp} {c : NtC} {op : Su203.Operation} {ex : List Addr} {Q : VK}
theorem After.drop (k : After A H c op ex Q) : After A H c op [] Q := fun H' c' p h1 h2 h3 => k H' c' p h1 h2 fun b hb => by
  rcases h3 b hb with h | h | h
  · exact .inl h
  · cases h
  · exact .inr (.inr h)
theorem After.grow (k : After A H c op ex Q) (e : Ex H H1) : After A H1 c op ex Q := fun H' c' p h1 h2 h3 h4 h5 => k H' c' p h1 h2 (fun b hb => by
  rcases h3 b hb with h | h | h
  · exact .inl h
  · exact .inr (.inl h)
  · exact .inr (.inr (fresh_back e h))) (fun b o hb hn => h4 b o (e b o hb) hn) (fresh_back e h5)
end
section
variable {K : PySem.W.Frag} {σ : L2.St} {H H' : Hp} {ta tb te tx : TE} {t u : TT} {D : Ends} {tu tz : TS} {tA : TA}
theorem s_retC {sp : Sp} {vs : List V} (h : EvA tA σ H vs) (k : ∀ H1, Ex H H1 → sp vs H1 D.rt E0) : tRet (tCall sp [] E0 tA) D σ H := h H (Ex.refl H) _ fun H1 e => by
  show sp (vs ++ []) H1 D.rt E0
  rw [List.append_nil]
  exact k H1 e
theorem q_asgC {sp : Sp} {vs : List V} {i : Nat} (h : EvA tA σ H vs) (k : ∀ H1, Ex H H1 → sp vs H1 (fun v H2 => tz D (σ.set i (some v)) H2) E0) : tSeq (tAsg (tCall sp [] E0 tA) (gName i)) tz D σ H := h H (Ex.refl H) _ fun H1 e => by
  show sp (vs ++ []) H1 _ E0
  rw [List.append_nil]
  exact k H1 e
end
section
variable {P : Program} {w : World} {K : PySem.W.Frag} {mg : Str → Option Value} {base : Heap} {A : Adr} {H H1 : Hp}
theorem ClC.hA {k : ClC} (h : Hold H (k.cells A)) : H k.a = some (.ins A.cCall k.dx k.fs) := h (k.a, _) (.head _)
theorem ClC.hN {k : ClC} (h : Hold H (k.cells A)) : H k.na = some (.lst (nats k.c.nums)) := h (k.na, _) (.tail _ (.head _))
theorem ClC.hR {k : ClC} (h : Hold H (k.cells A)) : H k.ra = some (.lst (nats k.c.row)) := h (k.ra, _) (.tail _ (.tail _ (.head _)))
section
variable (T : Txt K mg A) {σ : L2.St} {ta : TE} {k : ClC}
include T
theorem evK0 (h : Hold H (k.cells A)) (e : Ev ta σ H (.ref k.a)) : Ev (tFld K ta "operation") σ H (.int (k.c.op : Nat)) := ev_fld e (ClC.hA h) T.kCall T.nCall_operation k.f0
theorem evK1 (h : Hold H (k.cells A)) (e : Ev ta σ H (.ref k.a)) : Ev (tFld K ta "numbers") σ H (.ref k.na) := ev_fld e (ClC.hA h) T.kCall T.nCall_numbers k.f1
theorem evK2 (h : Hold H (k.cells A)) (e : Ev ta σ H (.ref k.a)) : Ev (tFld K ta "row") σ H (.ref k.ra) := ev_fld e (ClC.hA h) T.kCall T.nCall_row k.f2
end
/-! ### answer_change -/
def sp_answer_change (A : Adr) : Sp := fun vs H Q _ => ∃ (c : NtC) (k : ClC), vs = [.ref c.a, .ref k.a] ∧ Net A H c ∧ SpOk c.spec ∧ Hold H (k.cells A) ∧ k.c.Ok ∧ 1 ≤ k.c.op ∧ k.c.op < 8 ∧ k.c.row.length ≤ 8 ∧ k.ra ∉ c.keys A ∧ After A H c (opOf k.c) [k.ra] Q
theorem ok_answer_change (T : Txt K mg A) (k_add_link : Cal P w K mg base 3 "add_link" (sp_add_link A)) (k_add_flow : Cal P w K mg base 3 "add_flow" (sp_add_flow A)) (k_add_path : Cal P w K mg base 4 "add_path" (sp_add_path A)) (k_place_flow : Cal P w K mg base 3 "place_flow" (sp_place_flow A)) (k_stop_flow : Cal P w K mg base 3 "stop_flow" (sp_stop_flow A)) (k_move_flow : Cal P w K mg base 4 "move_flow" (sp_move_flow A)) (k_set_capacity : Cal P w K mg base 3 "set_capacity" (sp_set_capacity A))
    {f : Addr} {fd : FuncData} (F : Fun K "answer_change" "answer_change" s_answer_change f fd) (g : mg "answer_change" = some (.ref f)) (b : Binds K fd ["network", "call"] []) : Cal P w K mg base 5 "answer_change" (sp_answer_change A) := by
  refine ⟨f, fd, _, [], F.ok sc_answer_change (fun vs H Q E h => ?_) (fun cdv A' outer s H vs Q E hr h => ?_), g, F.kp, b, .nil⟩
  · obtain ⟨c, k, rfl, _⟩ := h
    rfl
  · obtain ⟨c, ⟨ka, kdx, kna, kra, ⟨op, nums, row⟩⟩, rfl, n, o, hk, ok, h1, h8, hrow, hra, k⟩ := h
    refine ⟨_, (pss_cons (ps_set (i := 2) sc_answer_change.nd rfl (.inl rfl) (pe_fld (pv 1) rfl)) (pss_cons (ps_if (pt_cmpR op_eq (pe_fld (pv 1) rfl) (pe_gc rfl T.c_ADD_LINK) (nomark _)) (pss_one (ps_ret (pe_c k_add_link hr (by decide) rfl (pa_cons (pv 0) (pa_cons (pe_ix ix_list (pv 2) pe_int (fun _ _ => rfl)) (pa_cons (pe_ix ix_list (pv 2) pe_int (fun _ _ => rfl)) (pa_cons (pe_ix ix_list (pv 2) pe_int (fun _ _ => rfl)) pa_nil))))))) pss_nil) (pss_cons (ps_if (pt_cmpR op_eq (pe_fld (pv 1) rfl) (pe_gc rfl T.c_ADD_FLOW) (nomark _)) (pss_one (ps_ret (pe_c k_add_flow hr (by decide) rfl (pa_cons (pv 0) (pa_cons (pe_ix ix_list (pv 2) pe_int (fun _ _ => rfl)) (pa_cons (pe_ix ix_list (pv 2) pe_int (fun _ _ => rfl)) (pa_cons (pe_ix ix_list (pv 2) pe_int (fun _ _ => rfl)) pa_nil))))))) pss_nil) (pss_cons (ps_if (pt_cmpR op_eq (pe_fld (pv 1) rfl) (pe_gc rfl T.c_ADD_PATH) (nomark _)) (pss_one (ps_ret (pe_c k_add_path hr (by decide) rfl (pa_cons (pv 0) (pa_cons (pe_ix ix_list (pv 2) pe_int (fun _ _ => rfl)) (pa_cons (pe_fld (pv 1) rfl) pa_nil)))))) pss_nil) (pss_cons (ps_if (pt_cmpR op_eq (pe_fld (pv 1) rfl) (pe_gc rfl T.c_PLACE_FLOW) (nomark _)) (pss_one (ps_ret (pe_c k_place_flow hr (by decide) rfl (pa_cons (pv 0) (pa_cons (pe_ix ix_list (pv 2) pe_int (fun _ _ => rfl)) (pa_cons (pe_ix ix_list (pv 2) pe_int (fun _ _ => rfl)) pa_nil)))))) pss_nil) (pss_cons (ps_if (pt_cmpR op_eq (pe_fld (pv 1) rfl) (pe_gc rfl T.c_STOP_FLOW) (nomark _)) (pss_one (ps_ret (pe_c k_stop_flow hr (by decide) rfl (pa_cons (pv 0) (pa_cons (pe_ix ix_list (pv 2) pe_int (fun _ _ => rfl)) pa_nil))))) pss_nil) (pss_cons (ps_if (pt_cmpR op_eq (pe_fld (pv 1) rfl) (pe_gc rfl T.c_MOVE_FLOW) (nomark _)) (pss_one (ps_ret (pe_c k_move_flow hr (by decide) rfl (pa_cons (pv 0) (pa_cons (pe_ix ix_list (pv 2) pe_int (fun _ _ => rfl)) (pa_cons (pe_ix ix_list (pv 2) pe_int (fun _ _ => rfl)) pa_nil)))))) pss_nil) (pss_one (ps_ret (pe_c k_set_capacity hr (by decide) rfl (pa_cons (pv 0) (pa_cons (pe_ix ix_list (pv 2) pe_int (fun _ _ => rfl)) (pa_cons (pe_ix ix_list (pv 2) pe_int (fun _ _ => rfl)) pa_nil))))))))))))), ?_⟩
    have h1 : 1 ≤ op := h1
    have h8 : op < 8 := h8
    have o2 : counts[op]? = some nums.length := ok.2.1
    have hN : H kna = some (.lst (nats nums)) := ClC.hN hk
    have hR : H kra = some (.lst (nats row)) := ClC.hR hk
    refine q_asg (evK1 T hk (ev_var rfl)) fun H1 e1 => ?_
    refine q_when (b := decide (op = 1)) (et_test (ev_eqN (evK0 T (hk.mono e1) (ev_var rfl)) (ev_nat 1))) (fun hb H2 e2 => ?_) (fun hb H2 e2 => ?_)
    · obtain rfl := of_decide_eq_true hb
      obtain ⟨x, y, z, rfl⟩ := len3 (l := nums) o2
      have ea := e1.trans e2
      refine s_retC (vs := [.ref c.a, .int (x : Nat), .int (y : Nat), .int (z : Nat)]) (ea_cons (ev_var rfl) (ea_cons (ev_ixN (K := K) (ev_var rfl) (ev_nat 0) (sq_of (ea _ _ hN)) rfl) (ea_cons (ev_ixN (K := K) (ev_var rfl) (ev_nat 1) (sq_of (ea _ _ hN)) rfl) (ea_cons (ev_ixN (K := K) (ev_var rfl) (ev_nat 2) (sq_of (ea _ _ hN)) rfl) ea_nil)))) fun H3 e3 => ?_
      exact ⟨c, x, y, z, rfl, n.ex (ea.trans e3), (k.grow (ea.trans e3)).drop⟩
    have ne1 : op ≠ 1 := of_decide_eq_false hb
    refine q_when (b := decide (op = 2)) (et_test (ev_eqN (evK0 T (hk.mono (e1.trans e2)) (ev_var rfl)) (ev_nat 2))) (fun hb H3 e3 => ?_) (fun hb H3 e3 => ?_)
    · obtain rfl := of_decide_eq_true hb
      obtain ⟨x, y, z, rfl⟩ := len3 (l := nums) o2
      have ea := (e1.trans e2).trans e3
      refine s_retC (vs := [.ref c.a, .int (x : Nat), .int (y : Nat), .int (z : Nat)]) (ea_cons (ev_var rfl) (ea_cons (ev_ixN (K := K) (ev_var rfl) (ev_nat 0) (sq_of (ea _ _ hN)) rfl) (ea_cons (ev_ixN (K := K) (ev_var rfl) (ev_nat 1) (sq_of (ea _ _ hN)) rfl) (ea_cons (ev_ixN (K := K) (ev_var rfl) (ev_nat 2) (sq_of (ea _ _ hN)) rfl) ea_nil)))) fun H4 e4 => ?_
      have hal : c.asg.length ≤ 5 := by rw [(fits_of o).1]; exact (wf_of o).2.1
      exact ⟨c, x, y, z, rfl, n.ex (ea.trans e4), hal, (k.grow (ea.trans e4)).drop⟩
    have ne2 : op ≠ 2 := of_decide_eq_false hb
    have ea3 := (e1.trans e2).trans e3
    refine q_when (b := decide (op = 3)) (et_test (ev_eqN (evK0 T (hk.mono ea3) (ev_var rfl)) (ev_nat 3))) (fun hb H4 e4 => ?_) (fun hb H4 e4 => ?_)
    · obtain rfl := of_decide_eq_true hb
      obtain ⟨x, rfl⟩ := len1 (l := nums) o2
      have ea := ea3.trans e4
      refine s_retC (vs := [.ref c.a, .int (x : Nat), .ref kra]) (ea_cons (ev_var rfl) (ea_cons (ev_ixN (K := K) (ev_var rfl) (ev_nat 0) (sq_of (ea _ _ hN)) rfl) (ea_cons (evK2 T (hk.mono ea) (ev_var rfl)) ea_nil))) fun H5 e5 => ?_
      exact ⟨c, x, kra, row, rfl, n.ex (ea.trans e5), o, (ea.trans e5) _ _ hR, hra, hrow, k.grow (ea.trans e5)⟩
    have ne3 : op ≠ 3 := of_decide_eq_false hb
    have ea4 := ea3.trans e4
    refine q_when (b := decide (op = 4)) (et_test (ev_eqN (evK0 T (hk.mono ea4) (ev_var rfl)) (ev_nat 4))) (fun hb H5 e5 => ?_) (fun hb H5 e5 => ?_)
    · obtain rfl := of_decide_eq_true hb
      obtain ⟨x, y, rfl⟩ := len2 (l := nums) o2
      have ea := ea4.trans e5
      refine s_retC (vs := [.ref c.a, .int (x : Nat), .int (y : Nat)]) (ea_cons (ev_var rfl) (ea_cons (ev_ixN (K := K) (ev_var rfl) (ev_nat 0) (sq_of (ea _ _ hN)) rfl) (ea_cons (ev_ixN (K := K) (ev_var rfl) (ev_nat 1) (sq_of (ea _ _ hN)) rfl) ea_nil))) fun H6 e6 => ?_
      exact ⟨c, x, y, rfl, n.ex (ea.trans e6), o, (k.grow (ea.trans e6)).drop⟩
    have ne4 : op ≠ 4 := of_decide_eq_false hb
    have ea5 := ea4.trans e5
    refine q_when (b := decide (op = 5)) (et_test (ev_eqN (evK0 T (hk.mono ea5) (ev_var rfl)) (ev_nat 5))) (fun hb H6 e6 => ?_) (fun hb H6 e6 => ?_)
    · obtain rfl := of_decide_eq_true hb
      obtain ⟨x, rfl⟩ := len1 (l := nums) o2
      have ea := ea5.trans e6
      refine s_retC (vs := [.ref c.a, .int (x : Nat)]) (ea_cons (ev_var rfl) (ea_cons (ev_ixN (K := K) (ev_var rfl) (ev_nat 0) (sq_of (ea _ _ hN)) rfl) ea_nil)) fun H7 e7 => ?_
      exact ⟨c, x, rfl, n.ex (ea.trans e7), o, (k.grow (ea.trans e7)).drop⟩
    have ne5 : op ≠ 5 := of_decide_eq_false hb
    have ea6 := ea5.trans e6
    refine q_when (b := decide (op = 6)) (et_test (ev_eqN (evK0 T (hk.mono ea6) (ev_var rfl)) (ev_nat 6))) (fun hb H7 e7 => ?_) (fun hb H7 e7 => ?_)
    · obtain rfl := of_decide_eq_true hb
      obtain ⟨x, y, rfl⟩ := len2 (l := nums) o2
      have ea := ea6.trans e7
      refine s_retC (vs := [.ref c.a, .int (x : Nat), .int (y : Nat)]) (ea_cons (ev_var rfl) (ea_cons (ev_ixN (K := K) (ev_var rfl) (ev_nat 0) (sq_of (ea _ _ hN)) rfl) (ea_cons (ev_ixN (K := K) (ev_var rfl) (ev_nat 1) (sq_of (ea _ _ hN)) rfl) ea_nil))) fun H8 e8 => ?_
      exact ⟨c, x, y, rfl, n.ex (ea.trans e8), o, (k.grow (ea.trans e8)).drop⟩
    have ne6 : op ≠ 6 := of_decide_eq_false hb
    obtain rfl : op = 7 := by omega
    obtain ⟨x, y, rfl⟩ := len2 (l := nums) o2
    have ea := ea6.trans e7
    refine s_retC (vs := [.ref c.a, .int (x : Nat), .int (y : Nat)]) (ea_cons (ev_var rfl) (ea_cons (ev_ixN (K := K) (ev_var rfl) (ev_nat 0) (sq_of (ea _ _ hN)) rfl) (ea_cons (ev_ixN (K := K) (ev_var rfl) (ev_nat 1) (sq_of (ea _ _ hN)) rfl) ea_nil))) fun H8 e8 => ?_
    exact ⟨c, x, y, rfl, n.ex (ea.trans e8), o, (k.grow (ea.trans e8)).drop⟩
/-! ### answer_plan -/
def sp_answer_plan (A : Adr) : Sp := fun vs H Q _ => ∃ (c : NtC) (k : ClC), vs = [.ref c.a, .ref k.a] ∧ Net A H c ∧ SpOk c.spec ∧ Hold H (k.cells A) ∧ k.c.Ok ∧ 11 ≤ k.c.op ∧ k.c.op < 15 ∧ After A H c (opOf k.c) [k.ra] Q
theorem ok_answer_plan (T : Txt K mg A) (k_plan_to : Cal P w K mg base 6 "plan_to" (sp_plan_to A)) (k_plan_link_drain : Cal P w K mg base 6 "plan_link_drain" (sp_plan_link_drain A)) (k_plan_node_drain : Cal P w K mg base 6 "plan_node_drain" (sp_plan_node_drain A)) (k_drain_link : Cal P w K mg base 6 "drain_link" (sp_drain_link A))
    {f : Addr} {fd : FuncData} (F : Fun K "answer_plan" "answer_plan" s_answer_plan f fd) (g : mg "answer_plan" = some (.ref f)) (b : Binds K fd ["network", "call"] []) : Cal P w K mg base 7 "answer_plan" (sp_answer_plan A) := by
  refine ⟨f, fd, _, [], F.ok sc_answer_plan (fun vs H Q E h => ?_) (fun cdv A' outer s H vs Q E hr h => ?_), g, F.kp, b, .nil⟩
  · obtain ⟨c, k, rfl, _⟩ := h
    rfl
  · obtain ⟨c, ⟨ka, kdx, kna, kra, ⟨op, nums, row⟩⟩, rfl, n, o, hk, ok, h8, h15, k⟩ := h
    refine ⟨_, (pss_cons (ps_if (pt_cmpR op_eq (pe_fld (pv 1) rfl) (pe_gc rfl T.c_PLAN_TO) (nomark _)) (pss_one (ps_ret (pe_c k_plan_to hr (by decide) rfl (pa_cons (pv 0) (pa_cons (pe_fld (pv 1) rfl) pa_nil))))) pss_nil) (pss_cons (ps_if (pt_cmpR op_eq (pe_fld (pv 1) rfl) (pe_gc rfl T.c_PLAN_LINK_DRAIN) (nomark _)) (pss_one (ps_ret (pe_c k_plan_link_drain hr (by decide) rfl (pa_cons (pv 0) (pa_cons (pe_ix ix_list (pe_fld (pv 1) rfl) pe_int (fun _ _ => rfl)) pa_nil))))) pss_nil) (pss_cons (ps_if (pt_cmpR op_eq (pe_fld (pv 1) rfl) (pe_gc rfl T.c_PLAN_NODE_DRAIN) (nomark _)) (pss_one (ps_ret (pe_c k_plan_node_drain hr (by decide) rfl (pa_cons (pv 0) (pa_cons (pe_ix ix_list (pe_fld (pv 1) rfl) pe_int (fun _ _ => rfl)) pa_nil))))) pss_nil) (pss_one (ps_ret (pe_c k_drain_link hr (by decide) rfl (pa_cons (pv 0) (pa_cons (pe_ix ix_list (pe_fld (pv 1) rfl) pe_int (fun _ _ => rfl)) pa_nil)))))))), ?_⟩
    have h8 : 11 ≤ op := h8
    have h15 : op < 15 := h15
    have o2 : counts[op]? = some nums.length := ok.2.1
    have hN : H kna = some (.lst (nats nums)) := ClC.hN hk
    have hR : H kra = some (.lst (nats row)) := ClC.hR hk
    refine q_when (b := decide (op = 11)) (et_test (ev_eqN (evK0 T hk (ev_var rfl)) (ev_nat 11))) (fun hb H1 e1 => ?_) (fun hb H1 e1 => ?_)
    · obtain rfl := of_decide_eq_true hb
      refine s_retC (vs := [.ref c.a, .ref kra]) (ea_cons (ev_var rfl) (ea_cons (evK2 T (hk.mono e1) (ev_var rfl)) ea_nil)) fun H2 e2 => ?_
      exact ⟨c, kra, row, rfl, n.ex (e1.trans e2), o, (e1.trans e2) _ _ hR, (k.grow (e1.trans e2)).drop⟩
    have ne1 : op ≠ 11 := of_decide_eq_false hb
    refine q_when (b := decide (op = 12)) (et_test (ev_eqN (evK0 T (hk.mono e1) (ev_var rfl)) (ev_nat 12))) (fun hb H2 e2 => ?_) (fun hb H2 e2 => ?_)
    · obtain rfl := of_decide_eq_true hb
      obtain ⟨x, rfl⟩ := len1 (l := nums) o2
      have ea := e1.trans e2
      refine s_retC (vs := [.ref c.a, .int (x : Nat)]) (ea_cons (ev_var rfl) (ea_cons (ev_ixN (K := K) (evK1 T (hk.mono ea) (ev_var rfl)) (ev_nat 0) (sq_of (ea _ _ hN)) rfl) ea_nil)) fun H3 e3 => ?_
      exact ⟨c, x, rfl, n.ex (ea.trans e3), o, (k.grow (ea.trans e3)).drop⟩
    have ne2 : op ≠ 12 := of_decide_eq_false hb
    have ea2 := e1.trans e2
    refine q_when (b := decide (op = 13)) (et_test (ev_eqN (evK0 T (hk.mono ea2) (ev_var rfl)) (ev_nat 13))) (fun hb H3 e3 => ?_) (fun hb H3 e3 => ?_)
    · obtain rfl := of_decide_eq_true hb
      obtain ⟨x, rfl⟩ := len1 (l := nums) o2
      have ea := ea2.trans e3
      refine s_retC (vs := [.ref c.a, .int (x : Nat)]) (ea_cons (ev_var rfl) (ea_cons (ev_ixN (K := K) (evK1 T (hk.mono ea) (ev_var rfl)) (ev_nat 0) (sq_of (ea _ _ hN)) rfl) ea_nil)) fun H4 e4 => ?_
      exact ⟨c, x, rfl, n.ex (ea.trans e4), o, (k.grow (ea.trans e4)).drop⟩
    have ne3 : op ≠ 13 := of_decide_eq_false hb
    obtain rfl : op = 14 := by omega
    obtain ⟨x, rfl⟩ := len1 (l := nums) o2
    have ea := ea2.trans e3
    refine s_retC (vs := [.ref c.a, .int (x : Nat)]) (ea_cons (ev_var rfl) (ea_cons (ev_ixN (K := K) (evK1 T (hk.mono ea) (ev_var rfl)) (ev_nat 0) (sq_of (ea _ _ hN)) rfl) ea_nil)) fun H4 e4 => ?_
    exact ⟨c, x, rfl, n.ex (ea.trans e4), o, (k.grow (ea.trans e4)).drop⟩
/-! ### answer_question -/
def sp_answer_question (A : Adr) : Sp := fun vs H Q _ => ∃ (c : NtC) (k : ClC), vs = [.ref c.a, .ref k.a] ∧ Net A H c ∧ SpOk c.spec ∧ Hold H (k.cells A) ∧ k.c.Ok ∧ 8 ≤ k.c.op ∧ ¬ (11 ≤ k.c.op ∧ k.c.op < 15) ∧ After A H c (opOf k.c) [k.ra] Q
theorem ok_answer_question (T : Txt K mg A) (k_tell_link_loads : Cal P w K mg base 3 "tell_link_loads" (sp_tell_link_loads A)) (k_tell_assignment : Cal P w K mg base 3 "tell_assignment" (sp_tell_assignment A)) (k_tell_allowed_moves : Cal P w K mg base 4 "tell_allowed_moves" (sp_tell_allowed_moves A)) (k_tell_reachable_count : Cal P w K mg base 5 "tell_reachable_count" (sp_tell_reachable_count A)) (k_tell_component_count : Cal P w K mg base 6 "tell_component_count" (sp_tell_component_count A)) (k_tell_stuck_flows : Cal P w K mg base 5 "tell_stuck_flows" (sp_tell_stuck_flows A)) (k_tell_flow_paths : Cal P w K mg base 2 "tell_flow_paths" (sp_tell_flow_paths A)) (k_tell_totals : Cal P w K mg base 1 "tell_totals" (sp_tell_totals A))
    {f : Addr} {fd : FuncData} (F : Fun K "answer_question" "answer_question" s_answer_question f fd) (g : mg "answer_question" = some (.ref f)) (b : Binds K fd ["network", "call"] []) : Cal P w K mg base 7 "answer_question" (sp_answer_question A) := by
  refine ⟨f, fd, _, [], F.ok sc_answer_question (fun vs H Q E h => ?_) (fun cdv A' outer s H vs Q E hr h => ?_), g, F.kp, b, .nil⟩
  · obtain ⟨c, k, rfl, _⟩ := h
    rfl
  · obtain ⟨c, ⟨ka, kdx, kna, kra, ⟨op, nums, row⟩⟩, rfl, n, o, hk, ok, h8, hno, k⟩ := h
    refine ⟨_, (pss_cons (ps_if (pt_cmpR op_eq (pe_fld (pv 1) rfl) (pe_gc rfl T.c_LINK_LOADS) (nomark _)) (pss_one (ps_ret (pe_c k_tell_link_loads hr (by decide) rfl (pa_cons (pv 0) pa_nil)))) pss_nil) (pss_cons (ps_if (pt_cmpR op_eq (pe_fld (pv 1) rfl) (pe_gc rfl T.c_ASSIGNMENT) (nomark _)) (pss_one (ps_ret (pe_c k_tell_assignment hr (by decide) rfl (pa_cons (pv 0) pa_nil)))) pss_nil) (pss_cons (ps_if (pt_cmpR op_eq (pe_fld (pv 1) rfl) (pe_gc rfl T.c_ALLOWED_MOVES) (nomark _)) (pss_one (ps_ret (pe_c k_tell_allowed_moves hr (by decide) rfl (pa_cons (pv 0) pa_nil)))) pss_nil) (pss_cons (ps_if (pt_cmpR op_eq (pe_fld (pv 1) rfl) (pe_gc rfl T.c_REACHABLE_COUNT) (nomark _)) (pss_one (ps_ret (pe_c k_tell_reachable_count hr (by decide) rfl (pa_cons (pv 0) pa_nil)))) pss_nil) (pss_cons (ps_if (pt_cmpR op_eq (pe_fld (pv 1) rfl) (pe_gc rfl T.c_COMPONENT_COUNT) (nomark _)) (pss_one (ps_ret (pe_c k_tell_component_count hr (by decide) rfl (pa_cons (pv 0) pa_nil)))) pss_nil) (pss_cons (ps_if (pt_cmpR op_eq (pe_fld (pv 1) rfl) (pe_gc rfl T.c_STUCK_FLOWS) (nomark _)) (pss_one (ps_ret (pe_c k_tell_stuck_flows hr (by decide) rfl (pa_cons (pv 0) (pa_cons (pe_ix ix_list (pe_fld (pv 1) rfl) pe_int (fun _ _ => rfl)) pa_nil))))) pss_nil) (pss_cons (ps_if (pt_cmpR op_eq (pe_fld (pv 1) rfl) (pe_gc rfl T.c_FLOW_PATHS) (nomark _)) (pss_one (ps_ret (pe_c k_tell_flow_paths hr (by decide) rfl (pa_cons (pv 0) (pa_cons (pe_ix ix_list (pe_fld (pv 1) rfl) pe_int (fun _ _ => rfl)) pa_nil))))) pss_nil) (pss_one (ps_ret (pe_c k_tell_totals hr (by decide) rfl (pa_cons (pv 0) pa_nil))))))))))), ?_⟩
    have h8 : 8 ≤ op := h8
    have hno : ¬ (11 ≤ op ∧ op < 15) := hno
    have h20 : op < 20 := ok.1
    have o2 : counts[op]? = some nums.length := ok.2.1
    have hN : H kna = some (.lst (nats nums)) := ClC.hN hk
    refine q_when (b := decide (op = 8)) (et_test (ev_eqN (evK0 T hk (ev_var rfl)) (ev_nat 8))) (fun hb H1 e1 => ?_) (fun hb H1 e1 => ?_)
    · obtain rfl := of_decide_eq_true hb
      have ea := e1
      refine s_retC (vs := [.ref c.a]) (ea_cons (ev_var rfl) ea_nil) fun H' e' => ?_
      exact ⟨c, rfl, n.ex (ea.trans e'), o, (k.grow (ea.trans e')).drop⟩
    have ne8 : op ≠ 8 := of_decide_eq_false hb
    have ea1 := e1
    refine q_when (b := decide (op = 9)) (et_test (ev_eqN (evK0 T (hk.mono ea1) (ev_var rfl)) (ev_nat 9))) (fun hb H2 e2 => ?_) (fun hb H2 e2 => ?_)
    · obtain rfl := of_decide_eq_true hb
      have ea := (ea1.trans e2)
      refine s_retC (vs := [.ref c.a]) (ea_cons (ev_var rfl) ea_nil) fun H' e' => ?_
      exact ⟨c, rfl, n.ex (ea.trans e'), o, (k.grow (ea.trans e')).drop⟩
    have ne9 : op ≠ 9 := of_decide_eq_false hb
    have ea2 := (ea1.trans e2)
    refine q_when (b := decide (op = 10)) (et_test (ev_eqN (evK0 T (hk.mono ea2) (ev_var rfl)) (ev_nat 10))) (fun hb H3 e3 => ?_) (fun hb H3 e3 => ?_)
    · obtain rfl := of_decide_eq_true hb
      have ea := (ea2.trans e3)
      refine s_retC (vs := [.ref c.a]) (ea_cons (ev_var rfl) ea_nil) fun H' e' => ?_
      exact ⟨c, rfl, n.ex (ea.trans e'), o, (k.grow (ea.trans e')).drop⟩
    have ne10 : op ≠ 10 := of_decide_eq_false hb
    have ea3 := (ea2.trans e3)
    refine q_when (b := decide (op = 15)) (et_test (ev_eqN (evK0 T (hk.mono ea3) (ev_var rfl)) (ev_nat 15))) (fun hb H4 e4 => ?_) (fun hb H4 e4 => ?_)
    · obtain rfl := of_decide_eq_true hb
      have ea := (ea3.trans e4)
      refine s_retC (vs := [.ref c.a]) (ea_cons (ev_var rfl) ea_nil) fun H' e' => ?_
      exact ⟨c, rfl, n.ex (ea.trans e'), o, (k.grow (ea.trans e')).drop⟩
    have ne15 : op ≠ 15 := of_decide_eq_false hb
    have ea4 := (ea3.trans e4)
    refine q_when (b := decide (op = 16)) (et_test (ev_eqN (evK0 T (hk.mono ea4) (ev_var rfl)) (ev_nat 16))) (fun hb H5 e5 => ?_) (fun hb H5 e5 => ?_)
    · obtain rfl := of_decide_eq_true hb
      have ea := (ea4.trans e5)
      refine s_retC (vs := [.ref c.a]) (ea_cons (ev_var rfl) ea_nil) fun H' e' => ?_
      exact ⟨c, rfl, n.ex (ea.trans e'), o, (k.grow (ea.trans e')).drop⟩
    have ne16 : op ≠ 16 := of_decide_eq_false hb
    have ea5 := (ea4.trans e5)
    refine q_when (b := decide (op = 17)) (et_test (ev_eqN (evK0 T (hk.mono ea5) (ev_var rfl)) (ev_nat 17))) (fun hb H6 e6 => ?_) (fun hb H6 e6 => ?_)
    · obtain rfl := of_decide_eq_true hb
      obtain ⟨x, rfl⟩ := len1 (l := nums) o2
      have ea := (ea5.trans e6)
      refine s_retC (vs := [.ref c.a, .int (x : Nat)]) (ea_cons (ev_var rfl) (ea_cons (ev_ixN (K := K) (evK1 T (hk.mono ea) (ev_var rfl)) (ev_nat 0) (sq_of (ea _ _ hN)) rfl) ea_nil)) fun H' e' => ?_
      exact ⟨c, x, rfl, n.ex (ea.trans e'), o, (k.grow (ea.trans e')).drop⟩
    have ne17 : op ≠ 17 := of_decide_eq_false hb
    have ea6 := (ea5.trans e6)
    refine q_when (b := decide (op = 18)) (et_test (ev_eqN (evK0 T (hk.mono ea6) (ev_var rfl)) (ev_nat 18))) (fun hb H7 e7 => ?_) (fun hb H7 e7 => ?_)
    · obtain rfl := of_decide_eq_true hb
      obtain ⟨x, rfl⟩ := len1 (l := nums) o2
      have ea := (ea6.trans e7)
      refine s_retC (vs := [.ref c.a, .int (x : Nat)]) (ea_cons (ev_var rfl) (ea_cons (ev_ixN (K := K) (evK1 T (hk.mono ea) (ev_var rfl)) (ev_nat 0) (sq_of (ea _ _ hN)) rfl) ea_nil)) fun H' e' => ?_
      exact ⟨c, x, rfl, n.ex (ea.trans e'), o, (k.grow (ea.trans e')).drop⟩
    have ne18 : op ≠ 18 := of_decide_eq_false hb
    have ea7 := (ea6.trans e7)
    obtain rfl : op = 19 := by omega
    refine s_retC (vs := [.ref c.a]) (ea_cons (ev_var rfl) ea_nil) fun H' e' => ?_
    exact ⟨c, rfl, n.ex (ea7.trans e'), o, (k.grow (ea7.trans e')).drop⟩
/-! ### answer_call -/
def netV : Option NtC → V
  | none => .non
  | some c => .ref c.a
def okeys (A : Adr) : Option NtC → List Addr
  | none => []
  | some c => c.keys A
def OkO : Option NtC → Prop
  | none => True
  | some c => SpOk c.spec
/-- behind one call: the instance's state is the machine's, the answer its result -/
def AfterI (A : Adr) (H : Hp) (ia : Addr) (s : Option NtC) (op : Su203.Operation) (ex : List Addr) (Q : VK) : Prop := ∀ (H' : Hp) (s' : Option NtC) (p : Addr), InstAt A H' ia s' → s'.map NtC.spec = (Su203.step (s.map NtC.spec) op).1 →
  (∀ b ∈ okeys A s', b ∈ okeys A s ∨ b ∈ ex ∨ H b = none) → Frame H H' (ia :: okeys A s) → H p = none → p ∉ okeys A s' → H' p = some (.lst (resV (Su203.step (s.map NtC.spec) op).2)) → Q (.ref p) H'
theorem inV_four (op : Nat) : inV (.int (op : Int)) [.int ((11 : Nat) : Int), .int ((12 : Nat) : Int), .int ((13 : Nat) : Int), .int ((14 : Nat) : Int)] = decide (11 ≤ op ∧ op < 15) := by
  show ((((11 : Nat) : Int) == (op : Int)) || ((((12 : Nat) : Int) == (op : Int)) || ((((13 : Nat) : Int) == (op : Int)) || ((((14 : Nat) : Int) == (op : Int)) || false)))) = _
  rw [Bool.or_false, cast_beq, cast_beq, cast_beq, cast_beq, Bool.eq_iff_iff]
  simp only [Bool.or_eq_true, beq_iff_eq, decide_eq_true_eq]
  omega
def sp_answer_call (A : Adr) : Sp := fun vs H Q _ => ∃ (ia : Addr) (s : Option NtC) (k : ClC), vs = [.ref ia, .ref k.a] ∧ InstAt A H ia s ∧ OkO s ∧ Hold H (k.cells A) ∧ k.c.Ok ∧ k.c.row.length ≤ 8 ∧ k.ra ∉ okeys A s ∧ AfterI A H ia s (opOf k.c) [k.ra] Q
theorem InstAt.field {ia : Addr} {s : Option NtC} (h : InstAt A H ia s) : ∃ dx, H ia = some (.ins A.cInstance dx (instFs (netV s))) := by
  cases s with
  | none => exact h
  | some c =>
    obtain ⟨dx, h, _⟩ := h
    exact ⟨dx, h⟩
theorem ok_answer_call (T : Txt K mg A) (k_create_network : Cal P w K mg base 4 "create_network" (sp_create_network A)) (k_answer_change : Cal P w K mg base 5 "answer_change" (sp_answer_change A)) (k_answer_plan : Cal P w K mg base 7 "answer_plan" (sp_answer_plan A)) (k_answer_question : Cal P w K mg base 7 "answer_question" (sp_answer_question A))
    {f : Addr} {fd : FuncData} (F : Fun K "answer_call" "answer_call" s_answer_call f fd) (g : mg "answer_call" = some (.ref f)) (b : Binds K fd ["instance", "call"] []) : Cal P w K mg base 8 "answer_call" (sp_answer_call A) := by
  refine ⟨f, fd, _, [], F.ok sc_answer_call (fun vs H Q E h => ?_) (fun cdv A' outer s H vs Q E hr h => ?_), g, F.kp, b, .nil⟩
  · obtain ⟨ia, s, k, rfl, _⟩ := h
    rfl
  · obtain ⟨ia, s, ⟨ka, kdx, kna, kra, ⟨op, nums, row⟩⟩, rfl, hi, oo, hk, ok, hrow, hra, k⟩ := h
    refine ⟨_, (pss_cons (ps_if (pt_cmpR op_eq (pe_fld (pv 1) rfl) (pe_gc rfl T.c_CREATE_NETWORK) (nomark _)) (pss_one (ps_ret (pe_c k_create_network hr (by decide) rfl (pa_cons (pv 0) (pa_cons (pe_ix ix_list (pe_fld (pv 1) rfl) pe_int (fun _ _ => rfl)) pa_nil))))) pss_nil) (pss_cons (ps_if (pt_cmpR op_isN (pe_fld (pv 0) rfl) pe_non (nomark _)) (pss_one (ps_ret (pe_lst (pa_cons (pe_gc rfl T.c_NO_NETWORK) pa_nil)))) pss_nil) (pss_cons (ps_if (pt_cmpR op_le (pe_fld (pv 1) rfl) (pe_gc rfl T.c_SET_CAPACITY) (nomark _)) (pss_one (ps_ret (pe_c k_answer_change hr (by decide) rfl (pa_cons (pe_fld (pv 0) rfl) (pa_cons (pv 1) pa_nil))))) pss_nil) (pss_cons (ps_if (pt_cmpR op_in_seq (pe_fld (pv 1) rfl) (pe_tup (pa_cons (pe_gc rfl T.c_PLAN_TO) (pa_cons (pe_gc rfl T.c_PLAN_LINK_DRAIN) (pa_cons (pe_gc rfl T.c_PLAN_NODE_DRAIN) (pa_cons (pe_gc rfl T.c_DRAIN_LINK) pa_nil))))) (by rfl)) (pss_one (ps_ret (pe_c k_answer_plan hr (by decide) rfl (pa_cons (pe_fld (pv 0) rfl) (pa_cons (pv 1) pa_nil))))) pss_nil) (pss_one (ps_ret (pe_c k_answer_question hr (by decide) rfl (pa_cons (pe_fld (pv 0) rfl) (pa_cons (pv 1) pa_nil))))))))), ?_⟩
    have h20 : op < 20 := ok.1
    have o2 : counts[op]? = some nums.length := ok.2.1
    have hN : H kna = some (.lst (nats nums)) := ClC.hN hk
    obtain ⟨dx, hif⟩ := hi.field
    refine q_when (b := decide (op = 0)) (et_test (ev_eqN (evK0 T hk (ev_var rfl)) (ev_nat 0))) (fun hb H1 e1 => ?_) (fun hb H1 e1 => ?_)
    · -- create_network
      obtain rfl := of_decide_eq_true hb
      obtain ⟨m, rfl⟩ := len1 (l := nums) o2
      refine s_retC (vs := [.ref ia, .int (m : Nat)]) (ea_cons (ev_var rfl) (ea_cons (ev_ixN (K := K) (evK1 T (hk.mono e1) (ev_var rfl)) (ev_nat 0) (sq_of (e1 _ _ hN)) rfl) ea_nil)) fun H2 e2 => ?_
      have ea := e1.trans e2
      refine ⟨ia, dx, _, m, rfl, ea _ _ hif, fun hm p H' e3 hp hl => ?_, fun hm p H' c nc hck hcs hia fr hp hpk hl => ?_⟩
      · have es : Su203.step (s.map NtC.spec) (.createNetwork m) = (s.map NtC.spec, Su203.error (-22)) := by
          cases s with
          | none =>
            show (if (Su203.execute (Su203.create 2) (.createNetwork m)).2.value < 0 then none else some (Su203.execute (Su203.create 2) (.createNetwork m)).1, (Su203.execute (Su203.create 2) (.createNetwork m)).2) = _
            rw [show Su203.execute (Su203.create 2) (.createNetwork m) = (Su203.create 2, Su203.error (-22)) from if_pos hm]
            rfl
          | some c =>
            show (some (Su203.execute c.spec (.createNetwork m)).1, (Su203.execute c.spec (.createNetwork m)).2) = _
            rw [show Su203.execute c.spec (.createNetwork m) = (c.spec, Su203.error (-22)) from if_pos hm]
            rfl
        refine k H' s p ?_ (by show _ = (Su203.step (s.map NtC.spec) (.createNetwork m)).1; rw [es]) (fun b hb => .inl hb) (.of_ex (ea.trans e3)) (fresh_back ea hp) ?_ (by show _ = some (HO.lst (resV (Su203.step (s.map NtC.spec) (.createNetwork m)).2)); rw [es]; exact hl)
        · cases s with
          | none =>
            obtain ⟨d, h⟩ := hi
            exact ⟨d, (ea.trans e3) _ _ h⟩
          | some c =>
            obtain ⟨d, h, n, hn⟩ := hi
            exact ⟨d, (ea.trans e3) _ _ h, n.ex (ea.trans e3), hn⟩
        · cases s with
          | none => exact fun z => (List.not_mem_nil z).elim
          | some c =>
            obtain ⟨d, h, n, hn⟩ := hi
            exact (n.hold.mono ea).fresh hp
      · have es : Su203.step (s.map NtC.spec) (.createNetwork m) = (some (Su203.create m), Su203.ok 0 []) := by
          cases s with
          | none =>
            show (if (Su203.execute (Su203.create 2) (.createNetwork m)).2.value < 0 then none else some (Su203.execute (Su203.create 2) (.createNetwork m)).1, (Su203.execute (Su203.create 2) (.createNetwork m)).2) = _
            rw [show Su203.execute (Su203.create 2) (.createNetwork m) = (Su203.create m, Su203.ok 0 []) from if_neg hm]
            rfl
          | some c =>
            show (some (Su203.execute c.spec (.createNetwork m)).1, (Su203.execute c.spec (.createNetwork m)).2) = _
            rw [show Su203.execute c.spec (.createNetwork m) = (Su203.create m, Su203.ok 0 []) from if_neg hm]
        refine k H' (some c) p ⟨dx, hia, nc, fun z => ?_⟩ (by show some c.spec = (Su203.step (s.map NtC.spec) (.createNetwork m)).1; rw [es, hcs]) (fun b hb => .inr (.inr (fresh_back ea (hck b hb)))) (fun b u hb hn => ?_) (fresh_back ea hp) hpk (by show _ = some (HO.lst (resV (Su203.step (s.map NtC.spec) (.createNetwork m)).2)); rw [es]; exact hl)
        · have := hck ia z
          rw [ea _ _ hif] at this
          cases this
        · exact fr b u (ea _ _ hb) (fun z => hn (by rw [List.mem_singleton] at z; rw [z]; exact .head _))
    · have ne0 : op ≠ 0 := of_decide_eq_false hb
      have hopn : ∀ m, opOf ⟨op, nums, row⟩ ≠ .createNetwork m := fun m z => by
        unfold opOf at z
        have c19 : op = 1 ∨ op = 2 ∨ op = 3 ∨ op = 4 ∨ op = 5 ∨ op = 6 ∨ op = 7 ∨ op = 8 ∨ op = 9 ∨ op = 10 ∨ op = 11 ∨ op = 12 ∨ op = 13 ∨ op = 14 ∨ op = 15 ∨ op = 16 ∨ op = 17 ∨ op = 18 ∨ op = 19 := by omega
        rcases c19 with rfl | rfl | rfl | rfl | rfl | rfl | rfl | rfl | rfl | rfl | rfl | rfl | rfl | rfl | rfl | rfl | rfl | rfl | rfl <;> cases z
      refine q_when (b := decide (netV s = V.non)) (et_test (ev_isN (ev_fld (ev_var rfl) (e1 _ _ hif) T.kInstance T.nInstance_network lk_here))) (fun hb H2 e2 => ?_) (fun hb H2 e2 => ?_)
      · cases s with
        | some c => cases of_decide_eq_true hb
        | none =>
          refine s_code fun p H3 hp e3 hl => ?_
          have ea := (e1.trans e2).trans e3
          have es : Su203.step none (opOf ⟨op, nums, row⟩) = (none, Su203.error (-11)) := by
            cases e : opOf ⟨op, nums, row⟩ with
            | createNetwork m => exact absurd e (hopn m)
            | _ => rfl
          obtain ⟨d, h⟩ := hi
          refine k H3 none p ⟨d, ea _ _ h⟩ (by show none = (Su203.step none (opOf ⟨op, nums, row⟩)).1; rw [es]) (fun b hb => .inl hb) (.of_ex ea) (fresh_back (e1.trans e2) hp) (fun z => (List.not_mem_nil z).elim) (by show _ = some (HO.lst (resV (Su203.step none (opOf ⟨op, nums, row⟩)).2)); rw [es]; exact hl)
      · cases s with
        | none => exact absurd rfl (of_decide_eq_false hb)
        | some c =>
          obtain ⟨d, hd, n, hik⟩ := hi
          have ea := e1.trans e2
          have es : Su203.step (some c.spec) (opOf ⟨op, nums, row⟩) = (some (Su203.execute c.spec (opOf ⟨op, nums, row⟩)).1, (Su203.execute c.spec (opOf ⟨op, nums, row⟩)).2) := rfl
          have dEq : dx = d := by
            rw [hd] at hif
            have := Option.some.inj hif
            injection this with _ h2 _
            exact h2.symm
          subst dEq
          -- from the instance's wish to the network's
          have kk : After A H c (opOf ⟨op, nums, row⟩) [kra] Q := fun H' c' p n' ha hks fr hp hpk hl hsp => k H' (some c') p ⟨dx, by rw [ha]; exact fr _ _ hd hik, n', fun z => by
              rcases hks ia z with z | z | z
              · exact hik z
              · rw [List.mem_singleton] at z
                rw [z] at hd
                rw [show H kra = some (.lst (nats row)) from ClC.hR hk] at hd
                cases hd
              · rw [hd] at z
                cases z⟩ (by show some c'.spec = _; rw [hsp]; rfl) hks (fun b u hb hn => fr b u hb (fun z => hn (.tail _ z))) hp hpk hl
          have hifd : ∀ H', Ex H H' → ∀ {tE : TE} {σ' : L2.St}, Ev tE σ' H' (.ref ia) → Ev (tFld K tE "network") σ' H' (.ref c.a) := fun H' e _ _ he => ev_fld he (e _ _ hd) T.kInstance T.nInstance_network lk_here
          refine q_when (b := decide (op ≤ 7)) (et_test (ev_leN (evK0 T (hk.mono ea) (ev_var rfl)) (ev_nat 7))) (fun hb H3 e3 => ?_) (fun hb H3 e3 => ?_)
          · have ea3 := ea.trans e3
            refine s_retC (vs := [.ref c.a, .ref ka]) (ea_cons (hifd _ ea3 (ev_var rfl)) (ea_cons (ev_var rfl) ea_nil)) fun H4 e4 => ?_
            have ea4 := ea3.trans e4
            exact ⟨c, ⟨ka, kdx, kna, kra, ⟨op, nums, row⟩⟩, rfl, n.ex ea4, oo, hk.mono ea4, ok, Nat.pos_of_ne_zero ne0, Nat.lt_succ_of_le (of_decide_eq_true hb), hrow, hra, kk.grow ea4⟩
          · have h8 : 8 ≤ op := Nat.not_le.mp (of_decide_eq_false hb)
            have ea3 := ea.trans e3
            have hk3 := hk.mono ea3
            have rin : Ev (tOp (rIn K false) (tFld K (tVar 1) "operation") (tTup (tCons (tC (.int 11)) (tCons (tC (.int 12)) (tCons (tC (.int 13)) (tCons (tC (.int 14)) tNil)))))) [some (.ref ia), some (.ref ka)] H3 (.bl (decide (11 ≤ op ∧ op < 15))) := by
              have r := ev_inU (K := K) (σ := [some (.ref ia), some (.ref ka)]) (evK0 T hk3 (ev_var (i := 1) rfl)) (eu_tup (ea_cons (ev_nat 11) (ea_cons (ev_nat 12) (ea_cons (ev_nat 13) (ea_cons (ev_nat 14) ea_nil)))) (by show 4 ≤ 100000; decide)) rfl rfl
              rw [inV_four] at r
              exact r
            refine q_when (b := decide (11 ≤ op ∧ op < 15)) (et_test rin) (fun hb H5 e5 => ?_) (fun hb H5 e5 => ?_)
            · have ea5 := ea3.trans e5
              have hb := of_decide_eq_true hb
              refine s_retC (vs := [.ref c.a, .ref ka]) (ea_cons (hifd _ ea5 (ev_var rfl)) (ea_cons (ev_var rfl) ea_nil)) fun H4 e4 => ?_
              have ea4 := ea5.trans e4
              exact ⟨c, ⟨ka, kdx, kna, kra, ⟨op, nums, row⟩⟩, rfl, n.ex ea4, oo, hk.mono ea4, ok, hb.1, hb.2, kk.grow ea4⟩
            · have ea5 := ea3.trans e5
              refine s_retC (vs := [.ref c.a, .ref ka]) (ea_cons (hifd _ ea5 (ev_var rfl)) (ea_cons (ev_var rfl) ea_nil)) fun H4 e4 => ?_
              have ea4 := ea5.trans e4
              exact ⟨c, ⟨ka, kdx, kna, kra, ⟨op, nums, row⟩⟩, rfl, n.ex ea4, oo, hk.mono ea4, ok, h8, of_decide_eq_false hb, kk.grow ea4⟩
end
end Fm

set_option Elab.async false
set_option linter.all false
set_option maxRecDepth 100000
set_option maxHeartbeats 4000000
/-! answers. -/
namespace Fm
open C8 (pe_c pe_mk pe_gc)
open PySem PySem.Spec PyProof.Rows L2 Evl FmS
section
variable {K : PySem.W.Frag} {σ : L2.St} {H H' : Hp} {ta tb te tx : TE} {t u : TT} {x y z v : V} {D : Ends} {tu tz : TS} {tA : TA}
/-- xs.append(e), a long list -/
theorem q_appZ {l : Addr} {xs : List V} (hl : H l = some (.lst xs)) (ha : Ev ta σ H (.ref l)) (h : Ev te σ H v) (hz : xs.length < sizeLine) (k : ∀ H1, Ex H H1 → tz D σ (upd H1 l (.lst (xs ++ [v])))) :
    tSeq (tDrop (tBM K "list" rAppend ta (tCons te tNil))) tz D σ H := ha H (Ex.refl H) _ fun H1 e1 =>
  ⟨Or.inl ⟨rfl, xs, sq_of (e1 l _ hl)⟩, h H1 e1 _ fun H2 e2 => ⟨l, xs, v, rfl, rfl, e2 l _ (e1 l _ hl), hz, k H2 (e1.trans e2)⟩⟩
end
theorem resV_ints (r : Su203.Result) : resV r = (resI r).map V.int := by
  unfold resV resI
  rw [List.map_cons, List.map_map]
  rfl
section
variable {P : Program} {w : World} {K : PySem.W.Frag} {mg : Str → Option Value} {base : Heap} {A : Adr} {H H1 : Hp}
def sp_Instance (A : Adr) : Sp := fun vs H Q _ => ∃ (p dx : Addr), vs = [.ref p] ∧ H p = some (.ins A.cInstance dx []) ∧ ∀ H', H' = upd H p (.ins A.cInstance dx (instFs .non)) → Q .non H'
theorem ok_Instance_init (T : Txt K mg A) {f : Addr} {fd : FuncData} (F : Fun K "__init__" "Instance.__init__" s_Instance_init f fd) (M : Mk K A.cInstance f) (g : mg "Instance" = some (.ref A.cInstance)) (b : Binds K fd ["self"] []) : Mak P w K mg base 1 "Instance" A.cInstance (sp_Instance A) := by
  refine ⟨f, fd, _, [], M, F.ok sc_Instance_init (fun vs H Q E h => ?_) (fun cdv A' outer s H vs Q E hr h => ?_), g, b, .nil⟩
  · obtain ⟨p, dx, rfl, _⟩ := h
    rfl
  · obtain ⟨p, dx, rfl, hp, k⟩ := h
    refine ⟨_, (pss_one (ps_fld (pv 0) pe_non rfl)), ?_⟩
    refine ⟨_, rfl, p, _, dx, _, rfl, hp, T.kInstance, T.nInstance_network, (by show 0 < 1000; decide), ?_⟩
    refine k _ ?_
    congr 2
theorem new_Instance {σ : L2.St} : EvNew (tMake A.cInstance (sp_Instance A) [] E0 tNil) σ H (fun x _ H2 => ∃ dx, H2 x = some (.ins A.cInstance dx (instFs .non))) := fun H1 e Q q =>
  fun x dx nx nd ne => ⟨x, dx, rfl, upd_same, fun H' hH' => ⟨rfl, q x H' nx (by
    subst hH'
    exact fun b o hb => by
      rw [upd_ne (ne_of_none hb nx), upd_ne (ne_of_none hb nx), upd_ne (ne_of_none hb nd)]
      exact hb) ⟨dx, by subst hH'; exact upd_same⟩⟩⟩
theorem q_asgN {te : TE} {tz : TS} {D : Ends} {σ : L2.St} {i : Nat} {Pn : Addr → Hp → Hp → Prop} (h : EvNew te σ H Pn) (k : ∀ x H2, H x = none → Ex H H2 → Pn x H H2 → tz D (σ.set i (some (.ref x))) H2) : tSeq (tAsg te (gName i)) tz D σ H :=
  h H (Ex.refl H) _ fun x H2 nx e2 hP => k x H2 nx e2 hP
/-! ### the loop's word -/
structure Lp (A : Adr) (ca ia to fo : Addr) (pcs : List PC) (cl : List ClC) (i : Nat) (H' : Hp) (s : Option NtC) : Prop where
  inst : InstAt A H' ia s
  ok : OkO s
  st : s.map NtC.spec = stateOf none (pcs.take i)
  told : H' to = some (.lst ((toldOf none (pcs.take i)).map V.int))
  found : H' fo = some (.lst (crefs cl))
  own : Own H' (ccells A (cl.drop i))
  apart : ∀ b ∈ keysOf (ccells A (cl.drop i)), b ≠ ia ∧ b ∉ okeys A s ∧ b ≠ to ∧ b ≠ fo
  tok : to ≠ ia ∧ to ∉ okeys A s ∧ to ≠ fo
  fok : fo ≠ ia ∧ fo ∉ okeys A s
def sp_answers (K : PySem.W.Frag) : Sp := fun vs H Q _ => ∃ (ca : Addr) (pcs : List PC), vs = [.ref ca] ∧ SqL K H ca (nats (pcs.flatMap PC.flat)) ∧ (pcs.flatMap PC.flat).length ≤ 4400 ∧ (∀ c ∈ pcs, c.Ok) ∧ (∀ c ∈ pcs, c.row.length ≤ 8) ∧ (toldOf none pcs).length ≤ 10000000 ∧
  ∀ H' p, H' p = some (.lst ((toldOf none pcs).map V.int)) → Q (.ref p) H'
theorem asked_row {c : PC} (h : c.row.length ≤ 8) : Asked (opOf c) := by
  unfold opOf
  split <;> first | exact h | exact trivial
theorem told_take {pcs : List PC} {i : Nat} {c : PC} (h : pcs[i]? = some c) : toldOf none (pcs.take (i + 1)) = toldOf none (pcs.take i) ++ ((((resI (Su203.step (stateOf none (pcs.take i)) (opOf c)).2).length : Nat) : Int) :: resI (Su203.step (stateOf none (pcs.take i)) (opOf c)).2) := by
  rw [List.take_add_one, h, told_app]
  show _ ++ (_ :: resI _ ++ []) = _
  rw [List.append_nil]
theorem state_take {pcs : List PC} {i : Nat} {c : PC} (h : pcs[i]? = some c) : stateOf none (pcs.take (i + 1)) = (Su203.step (stateOf none (pcs.take i)) (opOf c)).1 := by
  rw [List.take_add_one, h, state_app]
  rfl
theorem told_le (pcs : List PC) (i : Nat) : (toldOf none (pcs.take i)).length ≤ (toldOf none pcs).length := by
  have e : toldOf none pcs = toldOf none (pcs.take i ++ pcs.drop i) := by rw [List.take_append_drop]
  rw [e, told_app, List.length_append]
  exact Nat.le_add_right _ _
theorem ok_answers (T : Txt K mg A) (m_Instance : Mak P w K mg base 1 "Instance" A.cInstance (sp_Instance A)) (k_read_calls : Cal P w K mg base 3 "read_calls" (sp_read_calls K A)) (k_answer_call : Cal P w K mg base 8 "answer_call" (sp_answer_call A))
    {f : Addr} {fd : FuncData} (F : Fun K "answers" "answers" s_answers f fd) : FnOk P w K mg base CX0 9 f fd ["calls"] (sp_answers K) := by
  refine F.ok sc_answers (fun vs H Q E h => ?_) (fun cdv A' outer s H vs Q E hr h => ?_)
  · obtain ⟨ca, pcs, rfl, _⟩ := h
    rfl
  · obtain ⟨ca, pcs, rfl, hca, hlen, hok, hrow, hmax, k⟩ := h
    refine ⟨_, (pss_cons (ps_set (i := 1) sc_answers.nd rfl (.inl rfl) (pe_mk0 m_Instance hr (by decide) rfl)) (pss_cons (ps_set (i := 2) sc_answers.nd rfl (.inl rfl) (pe_lst pa_nil)) (pss_cons (ps_for PassesOwn.never rfl (pi_list (pe_c k_read_calls hr (by decide) rfl (pa_cons (pv 0) pa_nil))) (pg_name (i := 3) sc_answers.nd rfl (.inl rfl)) (pss_cons (ps_set (i := 4) sc_answers.nd rfl (.inl rfl) (pe_c k_answer_call hr (by decide) rfl (pa_cons (pv 1) (pa_cons (pv 3) pa_nil)))) (pss_cons (ps_expr (pe_bm PySem.F.plainAttrs_list PySem.F.slot_list_append PySem.F.type_list_append mt_append (pv 2) (pa_cons (pe_callB call_len_seq (by rfl) T.b_len PySem.boot_len (pa_cons (pv 4) pa_nil)) pa_nil))) (pss_one (ps_expr (pe_bm PySem.F.plainAttrs_list PySem.F.slot_list_extend PySem.F.type_list_extend mt_extend (pv 2) (pa_cons (pv 4) pa_nil))))))) (pss_one (ps_ret (pv 2)))))), ?_⟩
    refine q_asgN new_Instance fun ia H1 nia e1 hia => ?_
    obtain ⟨dx, hia⟩ := hia
    refine q_asgL (el_lst ea_nil (Nat.zero_le _)) fun to H2 nto e2 hto => ?_
    -- for call in read_calls(calls)
    show tCall (sp_read_calls K A) [] E0 (tCons (tVar 0) tNil) [some (.ref ca), some (.ref ia), some (.ref to), none, none] H2 _
    refine (ea_cons (ev_var rfl) ea_nil : EvA (tCons (tVar 0) tNil) [some (.ref ca), some (.ref ia), some (.ref to), none, none] H2 [.ref ca]) H2 (Ex.refl H2) _ fun H3 e3 => ?_
    have e03 := (e1.trans e2).trans e3
    refine ⟨ca, pcs, rfl, ex_l e03 hca, hlen, hok, fun H4 fo cl e4 nfo hfo hcl own fresh nk => ?_⟩
    have e04 := e03.trans e4
    have hia4 : H4 ia = some (.ins A.cInstance dx (instFs .non)) := (((e2.trans e3).trans e4)) _ _ hia
    have hto4 : H4 to = some (.lst []) := (e3.trans e4) _ _ hto
    have toia : to ≠ ia := (ne_of_none hia nto).symm
    have foia : fo ≠ ia := (ne_of_none ((e2.trans e3) _ _ hia) nfo).symm
    have tofo : to ≠ fo := ne_of_none (e3 _ _ hto) nfo
    refine ⟨fo, rfl, ⟨_, sq_of hfo⟩, for_list (K := K) (a := fo) (xs := crefs cl) (fun i σ' H' => ∃ s y3 y4, σ' = [some (.ref ca), some (.ref ia), some (.ref to), y3, y4] ∧ Lp A ca ia to fo pcs cl i H' s) ⟨none, none, none, rfl, ?_⟩ (fun i σ' H' _ p => ?_) ?_ ?_⟩
    · refine ⟨⟨dx, hia4⟩, trivial, rfl, hto4, hfo, own, fun b hb => ⟨fun z => ?_, fun z => (List.not_mem_nil z).elim, fun z => ?_, fun z => ?_⟩, ⟨toia, fun z => (List.not_mem_nil z).elim, tofo⟩, ⟨foia, fun z => (List.not_mem_nil z).elim⟩⟩
      · have q := fresh b hb
        rw [z, (e2.trans e3) _ _ hia] at q
        cases q
      · have q := fresh b hb
        rw [z, e3 _ _ hto] at q
        cases q
      · rw [z] at hb
        exact nk hb
    · obtain ⟨s, y3, y4, _, lp⟩ := p
      exact sq_of lp.found
    · rintro i x σ' H' hx ⟨s, y3, y4, rfl, lp⟩
      obtain ⟨kc, hkc, rfl⟩ := refs_get hx
      have hpc : pcs[i]? = some kc.c := by rw [← hcl, List.getElem?_map, hkc]; rfl
      have hmem := List.mem_of_getElem? hpc
      have hdrop : cl.drop i = kc :: cl.drop (i + 1) := by
        obtain ⟨hi, e⟩ := List.getElem?_eq_some_iff.mp hkc
        rw [List.drop_eq_getElem_cons hi, e]
      have own := lp.own
      rw [hdrop] at own
      have own : Own H' (kc.cells A ++ ccells A (cl.drop (i + 1))) := own
      have apart := lp.apart
      rw [hdrop] at apart
      have apart : ∀ b ∈ keysOf (kc.cells A ++ ccells A (cl.drop (i + 1))), b ≠ ia ∧ b ∉ okeys A s ∧ b ≠ to ∧ b ≠ fo := apart
      have rak : kc.ra ∈ keysOf (kc.cells A ++ ccells A (cl.drop (i + 1))) := .tail _ (.tail _ (.head _))
      -- answered = answer_call(instance, call)
      show tSeq _ _ _ _ _
      refine q_asgC (vs := [.ref ia, .ref kc.a]) (ea_cons (ev_var rfl) (ea_cons (ev_var rfl) ea_nil)) fun H5 e5 => ?_
      have inst5 : InstAt A H5 ia s := by
        cases s with
        | none =>
          obtain ⟨d, h⟩ := lp.inst
          exact ⟨d, e5 _ _ h⟩
        | some c =>
          obtain ⟨d, h, n, hn⟩ := lp.inst
          exact ⟨d, e5 _ _ h, n.ex e5, hn⟩
      refine ⟨ia, s, kc, rfl, inst5, lp.ok, (own.hold.left).mono e5, hok _ hmem, hrow _ hmem, (apart _ rak).2.1, fun H6 s' p hi' hs' hks fr np hpk hp => ?_⟩
      rw [lp.st] at hs' hp
      generalize hr : (Su203.step (stateOf none (pcs.take i)) (opOf kc.c)).2 = r at hp
      have np' : H' p = none := fresh_back e5 np
      -- what stands beside stands still
      have keep : ∀ b o, H' b = some o → b ≠ ia → b ∉ okeys A s → H6 b = some o := fun b o hb h1 h2 => fr b o (e5 _ _ hb) fun z => by
        rcases List.mem_cons.mp z with z | z
        · exact h1 z
        · exact h2 z
      have told6 := keep _ _ lp.told lp.tok.1 lp.tok.2.1
      have found6 := keep _ _ lp.found lp.fok.1 lp.fok.2
      have pto : p ≠ to := (ne_of_none lp.told np').symm
      have nks : ∀ b o, H' b = some o → b ≠ kc.ra → b ∉ okeys A s → b ∉ okeys A s' := fun b o hb h1 h2 z => by
        rcases hks b z with q | q | q
        · exact h2 q
        · rw [List.mem_singleton] at q
          exact h1 q
        · rw [e5 _ _ hb] at q
          cases q
      have tk := told_take hpc
      rw [hr] at tk
      have tl := told_le pcs (i + 1)
      rw [tk, List.length_append, List.length_cons] at tl
      have sz : (10000000 : Nat) < sizeLine := by decide
      have rl : (resV r).length = (resI r).length := by rw [resV_ints, List.length_map]
      -- told.append(len(answered))
      refine q_appZ (xs := (toldOf none (pcs.take i)).map V.int) told6 (ev_var rfl) (ev_lenS (K := K) (ev_var rfl) (.inl (sq_of hp))) (by rw [List.length_map]; omega) fun H7 e7 => ?_
      -- told.extend(answered)
      refine s_ext (l := to) (b := p) (xs := (toldOf none (pcs.take i)).map V.int ++ [.int (((resV r).length : Nat) : Int)]) (zs := resV r) upd_same (by rw [upd_ne pto]; exact e7 _ _ hp) (ev_var rfl) (ev_var rfl) (by rw [List.length_append, List.length_map, List.length_singleton, rl]; omega) fun H8 e8 => ?_
      -- the word again
      have e68 : ∀ b o, H6 b = some o → b ≠ to → (upd H8 to (.lst (((toldOf none (pcs.take i)).map V.int ++ [.int (((resV r).length : Nat) : Int)]) ++ resV r))) b = some o := fun b o hb hne => by
        rw [upd_ne hne]
        refine e8 _ _ ?_
        rw [upd_ne hne]
        exact e7 _ _ hb
      have ndk := own.nd
      unfold keysOf at ndk
      rw [List.map_append, List.nodup_append] at ndk
      refine ⟨s', some (.ref kc.a), some (.ref p), rfl, ?_, ?_, ?_, ?_, e68 _ _ found6 lp.tok.2.2.symm, ⟨fun q hq => ?_, ndk.2.1⟩, fun b hb => ?_, ⟨lp.tok.1, nks _ _ lp.told (apart _ rak).2.2.1.symm lp.tok.2.1, lp.tok.2.2⟩, ⟨lp.fok.1, nks _ _ lp.found (apart _ rak).2.2.2.symm lp.fok.2⟩⟩
      · have tns' : to ∉ okeys A s' := nks _ _ lp.told (apart _ rak).2.2.1.symm lp.tok.2.1
        cases s' with
        | none =>
          obtain ⟨d, h⟩ := hi'
          exact ⟨d, e68 _ _ h lp.tok.1.symm⟩
        | some c =>
          obtain ⟨d, h, n, hn⟩ := hi'
          exact ⟨d, e68 _ _ h lp.tok.1.symm, ⟨fun q hq => e68 _ _ (n.hold q hq) fun z => tns' (by rw [← z]; exact List.mem_map_of_mem hq), n.nd⟩, hn⟩
      · have os : OkS (stateOf none (pcs.take i)) := by
          rw [← lp.st]
          intro w' hw
          cases hs : s with
          | none =>
            rw [hs] at hw
            cases hw
          | some c =>
            rw [hs] at hw
            have e : c.spec = w' := Option.some.inj hw
            rw [← e]
            have := lp.ok
            rw [hs] at this
            exact this
        have os' := step_ok os (opOf kc.c) (asked_row (hrow _ hmem))
        rw [← hs'] at os'
        cases s' with
        | none => exact trivial
        | some c => exact os' c.spec rfl
      · rw [state_take hpc]
        exact hs'
      · rw [upd_same, tk, List.map_append, List.map_cons, ← resV_ints, rl, List.append_assoc]
        rfl
      · have hk := own.hold.right q hq
        have hb : q.1 ∈ keysOf (kc.cells A ++ ccells A (cl.drop (i + 1))) := by
          unfold keysOf
          rw [List.map_append, List.mem_append]
          exact .inr (List.mem_map_of_mem hq)
        obtain ⟨a1, a2, a3, _⟩ := apart _ hb
        exact e68 _ _ (keep _ _ hk a1 a2) a3
      · have hb' : b ∈ keysOf (kc.cells A ++ ccells A (cl.drop (i + 1))) := by
          unfold keysOf
          rw [List.map_append, List.mem_append]
          exact .inr hb
        obtain ⟨a1, a2, a3, a4⟩ := apart _ hb'
        obtain ⟨o, ho⟩ := own.hold.right.key hb
        refine ⟨a1, nks b o ho (fun z => ?_) a2, a3, a4⟩
        exact ndk.2.2 kc.ra (.tail _ (.tail _ (.head _))) b hb z.symm
    · rintro σ' H' ⟨s, y3, y4, rfl, lp⟩
      show tRet (tVar 2) _ _ _
      refine s_ret (ev_var rfl) fun H5 e5 => k H5 to ?_
      have e : (crefs cl).length = pcs.length := by rw [List.length_map, ← hcl, List.length_map]
      have ht := lp.told
      rw [e, List.take_length] at ht
      exact e5 _ _ ht
end
theorem back_ints : ∀ {ns : List Int}, (∀ x ∈ ns, 0 ≤ x) → ns = FmS.zints (ns.map Int.toNat)
  | [], _ => rfl
  | x :: r, h => by
    show x :: r = ((Int.toNat x : Nat) : Int) :: FmS.zints (r.map Int.toNat)
    rw [← back_ints fun y hy => h y (.tail _ hy), Int.toNat_of_nonneg (h x (.head _))]
theorem sq_ints {K : PySem.W.Frag} {H : Hp} {a : Addr} {l : List Nat} (h : SqL K H a ((FmS.zints l).map V.int)) : SqL K H a (nats l) := by
  unfold FmS.zints at h
  rw [List.map_map] at h
  exact h
end Fm

set_option Elab.async false
set_option linter.all false
set_option maxRecDepth 100000
set_option maxHeartbeats 8000000
/-! The end. -/
namespace Fm
open PySem PySem.Spec PyProof.Rows L2 Evl FmS
theorem all_mk {P : Program} {w : World} {K : PySem.W.Frag} {h : Heap} {mg : Str → Option Value} {fa : Addr} (X : K.In h) (G : h.Ns mainGlobals mg) (hfa : mg "answers" = some (.ref fa))
    {C_Link f_Link_init C_Path f_Path_init C_Flow f_Flow_init C_Network f_Network_init C_Call f_Call_init C_Instance f_Instance_init f_has_node f_has_link f_has_flow f_has_path f_link_between f_links_along f_loads_under f_has_room f_links_entered f_is_path_of f_is_feasible f_uses_link f_links_at f_paths_to_enter f_allowed_moves f_after_move f_current_assignment f_plans_from f_choices_of f_candidate_assignments f_count_components f_is_drained f_tell_moves f_tell_plan f_find_drain f_is_target_form f_add_link f_add_flow f_place_flow f_stop_flow f_move_flow f_set_capacity f_add_path f_tell_assignment f_tell_link_loads f_create_network f_plan_to f_plan_link_drain f_plan_node_drain f_drain_link f_tell_allowed_moves f_tell_reachable_count f_tell_component_count f_tell_stuck_flows f_tell_flow_paths f_tell_totals f_read_calls f_answer_change f_answer_plan f_answer_question f_answer_call f_answers u_NUMBER_COUNTS : Addr} {od_Link_init an_Link_init od_Path_init an_Path_init od_Flow_init an_Flow_init od_Network_init an_Network_init od_Call_init an_Call_init od_Instance_init an_Instance_init od_has_node an_has_node od_has_link an_has_link od_has_flow an_has_flow od_has_path an_has_path od_link_between an_link_between od_links_along an_links_along od_loads_under an_loads_under od_has_room an_has_room od_links_entered an_links_entered od_is_path_of an_is_path_of od_is_feasible an_is_feasible od_uses_link an_uses_link od_links_at an_links_at od_paths_to_enter an_paths_to_enter od_allowed_moves an_allowed_moves od_after_move an_after_move od_current_assignment an_current_assignment od_plans_from an_plans_from od_choices_of an_choices_of od_candidate_assignments an_candidate_assignments od_count_components an_count_components od_is_drained an_is_drained od_tell_moves an_tell_moves od_tell_plan an_tell_plan od_find_drain an_find_drain od_is_target_form an_is_target_form od_add_link an_add_link od_add_flow an_add_flow od_place_flow an_place_flow od_stop_flow an_stop_flow od_move_flow an_move_flow od_set_capacity an_set_capacity od_add_path an_add_path od_tell_assignment an_tell_assignment od_tell_link_loads an_tell_link_loads od_create_network an_create_network od_plan_to an_plan_to od_plan_link_drain an_plan_link_drain od_plan_node_drain an_plan_node_drain od_drain_link an_drain_link od_tell_allowed_moves an_tell_allowed_moves od_tell_reachable_count an_tell_reachable_count od_tell_component_count an_tell_component_count od_tell_stuck_flows an_tell_stuck_flows od_tell_flow_paths an_tell_flow_paths od_tell_totals an_tell_totals od_read_calls an_read_calls od_answer_change an_answer_change od_answer_plan an_answer_plan od_answer_question an_answer_question od_answer_call an_answer_call od_answers an_answers od_NUMBER_COUNTS : Option Addr} {sl_Link_init sl_Path_init sl_Flow_init sl_Network_init sl_Call_init sl_Instance_init sl_has_node sl_has_link sl_has_flow sl_has_path sl_link_between sl_links_along sl_loads_under sl_has_room sl_links_entered sl_is_path_of sl_is_feasible sl_uses_link sl_links_at sl_paths_to_enter sl_allowed_moves sl_after_move sl_current_assignment sl_plans_from sl_choices_of sl_candidate_assignments sl_count_components sl_is_drained sl_tell_moves sl_tell_plan sl_find_drain sl_is_target_form sl_add_link sl_add_flow sl_place_flow sl_stop_flow sl_move_flow sl_set_capacity sl_add_path sl_tell_assignment sl_tell_link_loads sl_create_network sl_plan_to sl_plan_link_drain sl_plan_node_drain sl_drain_link sl_tell_allowed_moves sl_tell_reachable_count sl_tell_component_count sl_tell_stuck_flows sl_tell_flow_paths sl_tell_totals sl_read_calls sl_answer_change sl_answer_plan sl_answer_question sl_answer_call sl_answers sl_NUMBER_COUNTS : Array (Option Value)} {oc_Link_init kV_Link_init dc_Link_init pm_Link_init cd_Link_init ct_Link_init oc_Path_init kV_Path_init dc_Path_init pm_Path_init cd_Path_init ct_Path_init oc_Flow_init kV_Flow_init dc_Flow_init pm_Flow_init cd_Flow_init ct_Flow_init oc_Network_init kV_Network_init dc_Network_init pm_Network_init cd_Network_init ct_Network_init oc_Call_init kV_Call_init dc_Call_init pm_Call_init cd_Call_init ct_Call_init oc_Instance_init kV_Instance_init dc_Instance_init pm_Instance_init cd_Instance_init ct_Instance_init oc_has_node kV_has_node dc_has_node pm_has_node cd_has_node ct_has_node oc_has_link kV_has_link dc_has_link pm_has_link cd_has_link ct_has_link oc_has_flow kV_has_flow dc_has_flow pm_has_flow cd_has_flow ct_has_flow oc_has_path kV_has_path dc_has_path pm_has_path cd_has_path ct_has_path oc_link_between kV_link_between dc_link_between pm_link_between cd_link_between ct_link_between oc_links_along kV_links_along dc_links_along pm_links_along cd_links_along ct_links_along oc_loads_under kV_loads_under dc_loads_under pm_loads_under cd_loads_under ct_loads_under oc_has_room kV_has_room dc_has_room pm_has_room cd_has_room ct_has_room oc_links_entered kV_links_entered dc_links_entered pm_links_entered cd_links_entered ct_links_entered oc_is_path_of kV_is_path_of dc_is_path_of pm_is_path_of cd_is_path_of ct_is_path_of oc_is_feasible kV_is_feasible dc_is_feasible pm_is_feasible cd_is_feasible ct_is_feasible oc_uses_link kV_uses_link dc_uses_link pm_uses_link cd_uses_link ct_uses_link oc_links_at kV_links_at dc_links_at pm_links_at cd_links_at ct_links_at oc_paths_to_enter kV_paths_to_enter dc_paths_to_enter pm_paths_to_enter cd_paths_to_enter ct_paths_to_enter oc_allowed_moves kV_allowed_moves dc_allowed_moves pm_allowed_moves cd_allowed_moves ct_allowed_moves oc_after_move kV_after_move dc_after_move pm_after_move cd_after_move ct_after_move oc_current_assignment kV_current_assignment dc_current_assignment pm_current_assignment cd_current_assignment ct_current_assignment oc_plans_from kV_plans_from dc_plans_from pm_plans_from cd_plans_from ct_plans_from oc_choices_of kV_choices_of dc_choices_of pm_choices_of cd_choices_of ct_choices_of oc_candidate_assignments kV_candidate_assignments dc_candidate_assignments pm_candidate_assignments cd_candidate_assignments ct_candidate_assignments oc_count_components kV_count_components dc_count_components pm_count_components cd_count_components ct_count_components oc_is_drained kV_is_drained dc_is_drained pm_is_drained cd_is_drained ct_is_drained oc_tell_moves kV_tell_moves dc_tell_moves pm_tell_moves cd_tell_moves ct_tell_moves oc_tell_plan kV_tell_plan dc_tell_plan pm_tell_plan cd_tell_plan ct_tell_plan oc_find_drain kV_find_drain dc_find_drain pm_find_drain cd_find_drain ct_find_drain oc_is_target_form kV_is_target_form dc_is_target_form pm_is_target_form cd_is_target_form ct_is_target_form oc_add_link kV_add_link dc_add_link pm_add_link cd_add_link ct_add_link oc_add_flow kV_add_flow dc_add_flow pm_add_flow cd_add_flow ct_add_flow oc_place_flow kV_place_flow dc_place_flow pm_place_flow cd_place_flow ct_place_flow oc_stop_flow kV_stop_flow dc_stop_flow pm_stop_flow cd_stop_flow ct_stop_flow oc_move_flow kV_move_flow dc_move_flow pm_move_flow cd_move_flow ct_move_flow oc_set_capacity kV_set_capacity dc_set_capacity pm_set_capacity cd_set_capacity ct_set_capacity oc_add_path kV_add_path dc_add_path pm_add_path cd_add_path ct_add_path oc_tell_assignment kV_tell_assignment dc_tell_assignment pm_tell_assignment cd_tell_assignment ct_tell_assignment oc_tell_link_loads kV_tell_link_loads dc_tell_link_loads pm_tell_link_loads cd_tell_link_loads ct_tell_link_loads oc_create_network kV_create_network dc_create_network pm_create_network cd_create_network ct_create_network oc_plan_to kV_plan_to dc_plan_to pm_plan_to cd_plan_to ct_plan_to oc_plan_link_drain kV_plan_link_drain dc_plan_link_drain pm_plan_link_drain cd_plan_link_drain ct_plan_link_drain oc_plan_node_drain kV_plan_node_drain dc_plan_node_drain pm_plan_node_drain cd_plan_node_drain ct_plan_node_drain oc_drain_link kV_drain_link dc_drain_link pm_drain_link cd_drain_link ct_drain_link oc_tell_allowed_moves kV_tell_allowed_moves dc_tell_allowed_moves pm_tell_allowed_moves cd_tell_allowed_moves ct_tell_allowed_moves oc_tell_reachable_count kV_tell_reachable_count dc_tell_reachable_count pm_tell_reachable_count cd_tell_reachable_count ct_tell_reachable_count oc_tell_component_count kV_tell_component_count dc_tell_component_count pm_tell_component_count cd_tell_component_count ct_tell_component_count oc_tell_stuck_flows kV_tell_stuck_flows dc_tell_stuck_flows pm_tell_stuck_flows cd_tell_stuck_flows ct_tell_stuck_flows oc_tell_flow_paths kV_tell_flow_paths dc_tell_flow_paths pm_tell_flow_paths cd_tell_flow_paths ct_tell_flow_paths oc_tell_totals kV_tell_totals dc_tell_totals pm_tell_totals cd_tell_totals ct_tell_totals oc_read_calls kV_read_calls dc_read_calls pm_read_calls cd_read_calls ct_read_calls oc_answer_change kV_answer_change dc_answer_change pm_answer_change cd_answer_change ct_answer_change oc_answer_plan kV_answer_plan dc_answer_plan pm_answer_plan cd_answer_plan ct_answer_plan oc_answer_question kV_answer_question dc_answer_question pm_answer_question cd_answer_question ct_answer_question oc_answer_call kV_answer_call dc_answer_call pm_answer_call cd_answer_call ct_answer_call oc_answers kV_answers dc_answers pm_answers cd_answers ct_answers : Value} {t_MISSING t_INACTIVE t_NO_NETWORK t_TAKEN t_INVALID t_LIMIT_REACHED t_NO_ROOM t_NO_PLAN t_INFEASIBLE t_LEAST_NODES t_MOST_NODES t_MOST_LINKS t_MOST_CAPACITY t_MOST_FLOWS t_LEAST_DEMAND t_MOST_DEMAND t_MOST_PATHS t_CREATE_NETWORK t_ADD_LINK t_ADD_FLOW t_ADD_PATH t_PLACE_FLOW t_STOP_FLOW t_MOVE_FLOW t_SET_CAPACITY t_LINK_LOADS t_ASSIGNMENT t_ALLOWED_MOVES t_PLAN_TO t_PLAN_LINK_DRAIN t_PLAN_NODE_DRAIN t_DRAIN_LINK t_REACHABLE_COUNT t_COMPONENT_COUNT t_STUCK_FLOWS t_FLOW_PATHS t_NUMBER_COUNTS_0 t_NUMBER_COUNTS_1 t_NUMBER_COUNTS_2 t_NUMBER_COUNTS_3 t_NUMBER_COUNTS_4 t_NUMBER_COUNTS_5 t_NUMBER_COUNTS_6 t_NUMBER_COUNTS_7 t_NUMBER_COUNTS_8 t_NUMBER_COUNTS_9 t_NUMBER_COUNTS_10 t_NUMBER_COUNTS_11 t_NUMBER_COUNTS_12 t_NUMBER_COUNTS_13 t_NUMBER_COUNTS_14 t_NUMBER_COUNTS_15 t_NUMBER_COUNTS_16 t_NUMBER_COUNTS_17 t_NUMBER_COUNTS_18 t_NUMBER_COUNTS_19 : Tok} {n_NUMBER_COUNTS : Nat}
    (aC_Link : PySem.W.nsIn K mainGlobals "Link" = some (some (.ref C_Link)))
    (pg_Link : PySem.W.plainGet K C_Link Str.empty = true)
    (hd_Link : PySem.W.hasDictIn K C_Link = true)
    (po_Link : PySem.W.plainOver K C_Link = true)
    (sa_Link : PySem.W.findIn K (.ref C_Link) "__setattr__" = some (some (.builtin "object.__setattr__")))
    (mk_Link : PySem.W.makesIn K C_Link = true)
    (kc_Link : PySem.W.keepIn K (.ref C_Link) = true)
    (n_Link_node_a : PySem.W.findIn K (.ref C_Link) "node_a" = some none)
    (n_Link_node_b : PySem.W.findIn K (.ref C_Link) "node_b" = some none)
    (n_Link_capacity : PySem.W.findIn K (.ref C_Link) "capacity" = some none)
    (a_Link_init : PySem.W.findIn K (.ref C_Link) "__init__" = some (some (.ref f_Link_init)))
    (i_Link_init : PySem.W.isFn K (.ref f_Link_init) = true)
    (l_Link_init : K.lookup f_Link_init = some ⟨oc_Link_init, od_Link_init, .func (PySem.W.fnOf "__init__" "Link.__init__" (defArgs s_Link_init) (defBody s_Link_init) (defScope s_Link_init) .none kV_Link_init dc_Link_init pm_Link_init an_Link_init cd_Link_init ct_Link_init), sl_Link_init⟩)
    (c_Link_init : PySem.W.codeIn K cd_Link_init "Link.__init__" = true)
    (k_Link_init : PySem.W.keepIn K (.ref f_Link_init) = true)
    (aC_Path : PySem.W.nsIn K mainGlobals "Path" = some (some (.ref C_Path)))
    (pg_Path : PySem.W.plainGet K C_Path Str.empty = true)
    (hd_Path : PySem.W.hasDictIn K C_Path = true)
    (po_Path : PySem.W.plainOver K C_Path = true)
    (sa_Path : PySem.W.findIn K (.ref C_Path) "__setattr__" = some (some (.builtin "object.__setattr__")))
    (mk_Path : PySem.W.makesIn K C_Path = true)
    (kc_Path : PySem.W.keepIn K (.ref C_Path) = true)
    (n_Path_nodes : PySem.W.findIn K (.ref C_Path) "nodes" = some none)
    (n_Path_links : PySem.W.findIn K (.ref C_Path) "links" = some none)
    (a_Path_init : PySem.W.findIn K (.ref C_Path) "__init__" = some (some (.ref f_Path_init)))
    (i_Path_init : PySem.W.isFn K (.ref f_Path_init) = true)
    (l_Path_init : K.lookup f_Path_init = some ⟨oc_Path_init, od_Path_init, .func (PySem.W.fnOf "__init__" "Path.__init__" (defArgs s_Path_init) (defBody s_Path_init) (defScope s_Path_init) .none kV_Path_init dc_Path_init pm_Path_init an_Path_init cd_Path_init ct_Path_init), sl_Path_init⟩)
    (c_Path_init : PySem.W.codeIn K cd_Path_init "Path.__init__" = true)
    (k_Path_init : PySem.W.keepIn K (.ref f_Path_init) = true)
    (aC_Flow : PySem.W.nsIn K mainGlobals "Flow" = some (some (.ref C_Flow)))
    (pg_Flow : PySem.W.plainGet K C_Flow Str.empty = true)
    (hd_Flow : PySem.W.hasDictIn K C_Flow = true)
    (po_Flow : PySem.W.plainOver K C_Flow = true)
    (sa_Flow : PySem.W.findIn K (.ref C_Flow) "__setattr__" = some (some (.builtin "object.__setattr__")))
    (mk_Flow : PySem.W.makesIn K C_Flow = true)
    (kc_Flow : PySem.W.keepIn K (.ref C_Flow) = true)
    (n_Flow_source : PySem.W.findIn K (.ref C_Flow) "source" = some none)
    (n_Flow_destination : PySem.W.findIn K (.ref C_Flow) "destination" = some none)
    (n_Flow_demand : PySem.W.findIn K (.ref C_Flow) "demand" = some none)
    (n_Flow_paths : PySem.W.findIn K (.ref C_Flow) "paths" = some none)
    (a_Flow_init : PySem.W.findIn K (.ref C_Flow) "__init__" = some (some (.ref f_Flow_init)))
    (i_Flow_init : PySem.W.isFn K (.ref f_Flow_init) = true)
    (l_Flow_init : K.lookup f_Flow_init = some ⟨oc_Flow_init, od_Flow_init, .func (PySem.W.fnOf "__init__" "Flow.__init__" (defArgs s_Flow_init) (defBody s_Flow_init) (defScope s_Flow_init) .none kV_Flow_init dc_Flow_init pm_Flow_init an_Flow_init cd_Flow_init ct_Flow_init), sl_Flow_init⟩)
    (c_Flow_init : PySem.W.codeIn K cd_Flow_init "Flow.__init__" = true)
    (k_Flow_init : PySem.W.keepIn K (.ref f_Flow_init) = true)
    (aC_Network : PySem.W.nsIn K mainGlobals "Network" = some (some (.ref C_Network)))
    (pg_Network : PySem.W.plainGet K C_Network Str.empty = true)
    (hd_Network : PySem.W.hasDictIn K C_Network = true)
    (po_Network : PySem.W.plainOver K C_Network = true)
    (sa_Network : PySem.W.findIn K (.ref C_Network) "__setattr__" = some (some (.builtin "object.__setattr__")))
    (mk_Network : PySem.W.makesIn K C_Network = true)
    (kc_Network : PySem.W.keepIn K (.ref C_Network) = true)
    (n_Network_node_count : PySem.W.findIn K (.ref C_Network) "node_count" = some none)
    (n_Network_links : PySem.W.findIn K (.ref C_Network) "links" = some none)
    (n_Network_flows : PySem.W.findIn K (.ref C_Network) "flows" = some none)
    (n_Network_assignment : PySem.W.findIn K (.ref C_Network) "assignment" = some none)
    (a_Network_init : PySem.W.findIn K (.ref C_Network) "__init__" = some (some (.ref f_Network_init)))
    (i_Network_init : PySem.W.isFn K (.ref f_Network_init) = true)
    (l_Network_init : K.lookup f_Network_init = some ⟨oc_Network_init, od_Network_init, .func (PySem.W.fnOf "__init__" "Network.__init__" (defArgs s_Network_init) (defBody s_Network_init) (defScope s_Network_init) .none kV_Network_init dc_Network_init pm_Network_init an_Network_init cd_Network_init ct_Network_init), sl_Network_init⟩)
    (c_Network_init : PySem.W.codeIn K cd_Network_init "Network.__init__" = true)
    (k_Network_init : PySem.W.keepIn K (.ref f_Network_init) = true)
    (aC_Call : PySem.W.nsIn K mainGlobals "Call" = some (some (.ref C_Call)))
    (pg_Call : PySem.W.plainGet K C_Call Str.empty = true)
    (hd_Call : PySem.W.hasDictIn K C_Call = true)
    (po_Call : PySem.W.plainOver K C_Call = true)
    (sa_Call : PySem.W.findIn K (.ref C_Call) "__setattr__" = some (some (.builtin "object.__setattr__")))
    (mk_Call : PySem.W.makesIn K C_Call = true)
    (kc_Call : PySem.W.keepIn K (.ref C_Call) = true)
    (n_Call_operation : PySem.W.findIn K (.ref C_Call) "operation" = some none)
    (n_Call_numbers : PySem.W.findIn K (.ref C_Call) "numbers" = some none)
    (n_Call_row : PySem.W.findIn K (.ref C_Call) "row" = some none)
    (a_Call_init : PySem.W.findIn K (.ref C_Call) "__init__" = some (some (.ref f_Call_init)))
    (i_Call_init : PySem.W.isFn K (.ref f_Call_init) = true)
    (l_Call_init : K.lookup f_Call_init = some ⟨oc_Call_init, od_Call_init, .func (PySem.W.fnOf "__init__" "Call.__init__" (defArgs s_Call_init) (defBody s_Call_init) (defScope s_Call_init) .none kV_Call_init dc_Call_init pm_Call_init an_Call_init cd_Call_init ct_Call_init), sl_Call_init⟩)
    (c_Call_init : PySem.W.codeIn K cd_Call_init "Call.__init__" = true)
    (k_Call_init : PySem.W.keepIn K (.ref f_Call_init) = true)
    (aC_Instance : PySem.W.nsIn K mainGlobals "Instance" = some (some (.ref C_Instance)))
    (pg_Instance : PySem.W.plainGet K C_Instance Str.empty = true)
    (hd_Instance : PySem.W.hasDictIn K C_Instance = true)
    (po_Instance : PySem.W.plainOver K C_Instance = true)
    (sa_Instance : PySem.W.findIn K (.ref C_Instance) "__setattr__" = some (some (.builtin "object.__setattr__")))
    (mk_Instance : PySem.W.makesIn K C_Instance = true)
    (kc_Instance : PySem.W.keepIn K (.ref C_Instance) = true)
    (n_Instance_network : PySem.W.findIn K (.ref C_Instance) "network" = some none)
    (a_Instance_init : PySem.W.findIn K (.ref C_Instance) "__init__" = some (some (.ref f_Instance_init)))
    (i_Instance_init : PySem.W.isFn K (.ref f_Instance_init) = true)
    (l_Instance_init : K.lookup f_Instance_init = some ⟨oc_Instance_init, od_Instance_init, .func (PySem.W.fnOf "__init__" "Instance.__init__" (defArgs s_Instance_init) (defBody s_Instance_init) (defScope s_Instance_init) .none kV_Instance_init dc_Instance_init pm_Instance_init an_Instance_init cd_Instance_init ct_Instance_init), sl_Instance_init⟩)
    (c_Instance_init : PySem.W.codeIn K cd_Instance_init "Instance.__init__" = true)
    (k_Instance_init : PySem.W.keepIn K (.ref f_Instance_init) = true)
    (a_has_node : PySem.W.nsIn K mainGlobals "has_node" = some (some (.ref f_has_node)))
    (l_has_node : K.lookup f_has_node = some ⟨oc_has_node, od_has_node, .func (PySem.W.fnOf "has_node" "has_node" (defArgs s_has_node) (defBody s_has_node) (defScope s_has_node) .none kV_has_node dc_has_node pm_has_node an_has_node cd_has_node ct_has_node), sl_has_node⟩)
    (c_has_node : PySem.W.codeIn K cd_has_node "has_node" = true)
    (k_has_node : PySem.W.keepIn K (.ref f_has_node) = true)
    (a_has_link : PySem.W.nsIn K mainGlobals "has_link" = some (some (.ref f_has_link)))
    (l_has_link : K.lookup f_has_link = some ⟨oc_has_link, od_has_link, .func (PySem.W.fnOf "has_link" "has_link" (defArgs s_has_link) (defBody s_has_link) (defScope s_has_link) .none kV_has_link dc_has_link pm_has_link an_has_link cd_has_link ct_has_link), sl_has_link⟩)
    (c_has_link : PySem.W.codeIn K cd_has_link "has_link" = true)
    (k_has_link : PySem.W.keepIn K (.ref f_has_link) = true)
    (a_has_flow : PySem.W.nsIn K mainGlobals "has_flow" = some (some (.ref f_has_flow)))
    (l_has_flow : K.lookup f_has_flow = some ⟨oc_has_flow, od_has_flow, .func (PySem.W.fnOf "has_flow" "has_flow" (defArgs s_has_flow) (defBody s_has_flow) (defScope s_has_flow) .none kV_has_flow dc_has_flow pm_has_flow an_has_flow cd_has_flow ct_has_flow), sl_has_flow⟩)
    (c_has_flow : PySem.W.codeIn K cd_has_flow "has_flow" = true)
    (k_has_flow : PySem.W.keepIn K (.ref f_has_flow) = true)
    (a_has_path : PySem.W.nsIn K mainGlobals "has_path" = some (some (.ref f_has_path)))
    (l_has_path : K.lookup f_has_path = some ⟨oc_has_path, od_has_path, .func (PySem.W.fnOf "has_path" "has_path" (defArgs s_has_path) (defBody s_has_path) (defScope s_has_path) .none kV_has_path dc_has_path pm_has_path an_has_path cd_has_path ct_has_path), sl_has_path⟩)
    (c_has_path : PySem.W.codeIn K cd_has_path "has_path" = true)
    (k_has_path : PySem.W.keepIn K (.ref f_has_path) = true)
    (a_link_between : PySem.W.nsIn K mainGlobals "link_between" = some (some (.ref f_link_between)))
    (l_link_between : K.lookup f_link_between = some ⟨oc_link_between, od_link_between, .func (PySem.W.fnOf "link_between" "link_between" (defArgs s_link_between) (defBody s_link_between) (defScope s_link_between) .none kV_link_between dc_link_between pm_link_between an_link_between cd_link_between ct_link_between), sl_link_between⟩)
    (c_link_between : PySem.W.codeIn K cd_link_between "link_between" = true)
    (k_link_between : PySem.W.keepIn K (.ref f_link_between) = true)
    (a_links_along : PySem.W.nsIn K mainGlobals "links_along" = some (some (.ref f_links_along)))
    (l_links_along : K.lookup f_links_along = some ⟨oc_links_along, od_links_along, .func (PySem.W.fnOf "links_along" "links_along" (defArgs s_links_along) (defBody s_links_along) (defScope s_links_along) .none kV_links_along dc_links_along pm_links_along an_links_along cd_links_along ct_links_along), sl_links_along⟩)
    (c_links_along : PySem.W.codeIn K cd_links_along "links_along" = true)
    (k_links_along : PySem.W.keepIn K (.ref f_links_along) = true)
    (a_loads_under : PySem.W.nsIn K mainGlobals "loads_under" = some (some (.ref f_loads_under)))
    (l_loads_under : K.lookup f_loads_under = some ⟨oc_loads_under, od_loads_under, .func (PySem.W.fnOf "loads_under" "loads_under" (defArgs s_loads_under) (defBody s_loads_under) (defScope s_loads_under) .none kV_loads_under dc_loads_under pm_loads_under an_loads_under cd_loads_under ct_loads_under), sl_loads_under⟩)
    (c_loads_under : PySem.W.codeIn K cd_loads_under "loads_under" = true)
    (k_loads_under : PySem.W.keepIn K (.ref f_loads_under) = true)
    (a_has_room : PySem.W.nsIn K mainGlobals "has_room" = some (some (.ref f_has_room)))
    (l_has_room : K.lookup f_has_room = some ⟨oc_has_room, od_has_room, .func (PySem.W.fnOf "has_room" "has_room" (defArgs s_has_room) (defBody s_has_room) (defScope s_has_room) .none kV_has_room dc_has_room pm_has_room an_has_room cd_has_room ct_has_room), sl_has_room⟩)
    (c_has_room : PySem.W.codeIn K cd_has_room "has_room" = true)
    (k_has_room : PySem.W.keepIn K (.ref f_has_room) = true)
    (a_links_entered : PySem.W.nsIn K mainGlobals "links_entered" = some (some (.ref f_links_entered)))
    (l_links_entered : K.lookup f_links_entered = some ⟨oc_links_entered, od_links_entered, .func (PySem.W.fnOf "links_entered" "links_entered" (defArgs s_links_entered) (defBody s_links_entered) (defScope s_links_entered) .none kV_links_entered dc_links_entered pm_links_entered an_links_entered cd_links_entered ct_links_entered), sl_links_entered⟩)
    (c_links_entered : PySem.W.codeIn K cd_links_entered "links_entered" = true)
    (k_links_entered : PySem.W.keepIn K (.ref f_links_entered) = true)
    (a_is_path_of : PySem.W.nsIn K mainGlobals "is_path_of" = some (some (.ref f_is_path_of)))
    (l_is_path_of : K.lookup f_is_path_of = some ⟨oc_is_path_of, od_is_path_of, .func (PySem.W.fnOf "is_path_of" "is_path_of" (defArgs s_is_path_of) (defBody s_is_path_of) (defScope s_is_path_of) .none kV_is_path_of dc_is_path_of pm_is_path_of an_is_path_of cd_is_path_of ct_is_path_of), sl_is_path_of⟩)
    (c_is_path_of : PySem.W.codeIn K cd_is_path_of "is_path_of" = true)
    (k_is_path_of : PySem.W.keepIn K (.ref f_is_path_of) = true)
    (a_is_feasible : PySem.W.nsIn K mainGlobals "is_feasible" = some (some (.ref f_is_feasible)))
    (l_is_feasible : K.lookup f_is_feasible = some ⟨oc_is_feasible, od_is_feasible, .func (PySem.W.fnOf "is_feasible" "is_feasible" (defArgs s_is_feasible) (defBody s_is_feasible) (defScope s_is_feasible) .none kV_is_feasible dc_is_feasible pm_is_feasible an_is_feasible cd_is_feasible ct_is_feasible), sl_is_feasible⟩)
    (c_is_feasible : PySem.W.codeIn K cd_is_feasible "is_feasible" = true)
    (k_is_feasible : PySem.W.keepIn K (.ref f_is_feasible) = true)
    (a_uses_link : PySem.W.nsIn K mainGlobals "uses_link" = some (some (.ref f_uses_link)))
    (l_uses_link : K.lookup f_uses_link = some ⟨oc_uses_link, od_uses_link, .func (PySem.W.fnOf "uses_link" "uses_link" (defArgs s_uses_link) (defBody s_uses_link) (defScope s_uses_link) .none kV_uses_link dc_uses_link pm_uses_link an_uses_link cd_uses_link ct_uses_link), sl_uses_link⟩)
    (c_uses_link : PySem.W.codeIn K cd_uses_link "uses_link" = true)
    (k_uses_link : PySem.W.keepIn K (.ref f_uses_link) = true)
    (a_links_at : PySem.W.nsIn K mainGlobals "links_at" = some (some (.ref f_links_at)))
    (l_links_at : K.lookup f_links_at = some ⟨oc_links_at, od_links_at, .func (PySem.W.fnOf "links_at" "links_at" (defArgs s_links_at) (defBody s_links_at) (defScope s_links_at) .none kV_links_at dc_links_at pm_links_at an_links_at cd_links_at ct_links_at), sl_links_at⟩)
    (c_links_at : PySem.W.codeIn K cd_links_at "links_at" = true)
    (k_links_at : PySem.W.keepIn K (.ref f_links_at) = true)
    (a_paths_to_enter : PySem.W.nsIn K mainGlobals "paths_to_enter" = some (some (.ref f_paths_to_enter)))
    (l_paths_to_enter : K.lookup f_paths_to_enter = some ⟨oc_paths_to_enter, od_paths_to_enter, .func (PySem.W.fnOf "paths_to_enter" "paths_to_enter" (defArgs s_paths_to_enter) (defBody s_paths_to_enter) (defScope s_paths_to_enter) .none kV_paths_to_enter dc_paths_to_enter pm_paths_to_enter an_paths_to_enter cd_paths_to_enter ct_paths_to_enter), sl_paths_to_enter⟩)
    (c_paths_to_enter : PySem.W.codeIn K cd_paths_to_enter "paths_to_enter" = true)
    (k_paths_to_enter : PySem.W.keepIn K (.ref f_paths_to_enter) = true)
    (a_allowed_moves : PySem.W.nsIn K mainGlobals "allowed_moves" = some (some (.ref f_allowed_moves)))
    (l_allowed_moves : K.lookup f_allowed_moves = some ⟨oc_allowed_moves, od_allowed_moves, .func (PySem.W.fnOf "allowed_moves" "allowed_moves" (defArgs s_allowed_moves) (defBody s_allowed_moves) (defScope s_allowed_moves) .none kV_allowed_moves dc_allowed_moves pm_allowed_moves an_allowed_moves cd_allowed_moves ct_allowed_moves), sl_allowed_moves⟩)
    (c_allowed_moves : PySem.W.codeIn K cd_allowed_moves "allowed_moves" = true)
    (k_allowed_moves : PySem.W.keepIn K (.ref f_allowed_moves) = true)
    (a_after_move : PySem.W.nsIn K mainGlobals "after_move" = some (some (.ref f_after_move)))
    (l_after_move : K.lookup f_after_move = some ⟨oc_after_move, od_after_move, .func (PySem.W.fnOf "after_move" "after_move" (defArgs s_after_move) (defBody s_after_move) (defScope s_after_move) .none kV_after_move dc_after_move pm_after_move an_after_move cd_after_move ct_after_move), sl_after_move⟩)
    (c_after_move : PySem.W.codeIn K cd_after_move "after_move" = true)
    (k_after_move : PySem.W.keepIn K (.ref f_after_move) = true)
    (a_current_assignment : PySem.W.nsIn K mainGlobals "current_assignment" = some (some (.ref f_current_assignment)))
    (l_current_assignment : K.lookup f_current_assignment = some ⟨oc_current_assignment, od_current_assignment, .func (PySem.W.fnOf "current_assignment" "current_assignment" (defArgs s_current_assignment) (defBody s_current_assignment) (defScope s_current_assignment) .none kV_current_assignment dc_current_assignment pm_current_assignment an_current_assignment cd_current_assignment ct_current_assignment), sl_current_assignment⟩)
    (c_current_assignment : PySem.W.codeIn K cd_current_assignment "current_assignment" = true)
    (k_current_assignment : PySem.W.keepIn K (.ref f_current_assignment) = true)
    (a_plans_from : PySem.W.nsIn K mainGlobals "plans_from" = some (some (.ref f_plans_from)))
    (l_plans_from : K.lookup f_plans_from = some ⟨oc_plans_from, od_plans_from, .func (PySem.W.fnOf "plans_from" "plans_from" (defArgs s_plans_from) (defBody s_plans_from) (defScope s_plans_from) .none kV_plans_from dc_plans_from pm_plans_from an_plans_from cd_plans_from ct_plans_from), sl_plans_from⟩)
    (c_plans_from : PySem.W.codeIn K cd_plans_from "plans_from" = true)
    (k_plans_from : PySem.W.keepIn K (.ref f_plans_from) = true)
    (a_choices_of : PySem.W.nsIn K mainGlobals "choices_of" = some (some (.ref f_choices_of)))
    (l_choices_of : K.lookup f_choices_of = some ⟨oc_choices_of, od_choices_of, .func (PySem.W.fnOf "choices_of" "choices_of" (defArgs s_choices_of) (defBody s_choices_of) (defScope s_choices_of) .none kV_choices_of dc_choices_of pm_choices_of an_choices_of cd_choices_of ct_choices_of), sl_choices_of⟩)
    (c_choices_of : PySem.W.codeIn K cd_choices_of "choices_of" = true)
    (k_choices_of : PySem.W.keepIn K (.ref f_choices_of) = true)
    (a_candidate_assignments : PySem.W.nsIn K mainGlobals "candidate_assignments" = some (some (.ref f_candidate_assignments)))
    (l_candidate_assignments : K.lookup f_candidate_assignments = some ⟨oc_candidate_assignments, od_candidate_assignments, .func (PySem.W.fnOf "candidate_assignments" "candidate_assignments" (defArgs s_candidate_assignments) (defBody s_candidate_assignments) (defScope s_candidate_assignments) .none kV_candidate_assignments dc_candidate_assignments pm_candidate_assignments an_candidate_assignments cd_candidate_assignments ct_candidate_assignments), sl_candidate_assignments⟩)
    (c_candidate_assignments : PySem.W.codeIn K cd_candidate_assignments "candidate_assignments" = true)
    (k_candidate_assignments : PySem.W.keepIn K (.ref f_candidate_assignments) = true)
    (a_count_components : PySem.W.nsIn K mainGlobals "count_components" = some (some (.ref f_count_components)))
    (l_count_components : K.lookup f_count_components = some ⟨oc_count_components, od_count_components, .func (PySem.W.fnOf "count_components" "count_components" (defArgs s_count_components) (defBody s_count_components) (defScope s_count_components) .none kV_count_components dc_count_components pm_count_components an_count_components cd_count_components ct_count_components), sl_count_components⟩)
    (c_count_components : PySem.W.codeIn K cd_count_components "count_components" = true)
    (k_count_components : PySem.W.keepIn K (.ref f_count_components) = true)
    (a_is_drained : PySem.W.nsIn K mainGlobals "is_drained" = some (some (.ref f_is_drained)))
    (l_is_drained : K.lookup f_is_drained = some ⟨oc_is_drained, od_is_drained, .func (PySem.W.fnOf "is_drained" "is_drained" (defArgs s_is_drained) (defBody s_is_drained) (defScope s_is_drained) .none kV_is_drained dc_is_drained pm_is_drained an_is_drained cd_is_drained ct_is_drained), sl_is_drained⟩)
    (c_is_drained : PySem.W.codeIn K cd_is_drained "is_drained" = true)
    (k_is_drained : PySem.W.keepIn K (.ref f_is_drained) = true)
    (a_tell_moves : PySem.W.nsIn K mainGlobals "tell_moves" = some (some (.ref f_tell_moves)))
    (l_tell_moves : K.lookup f_tell_moves = some ⟨oc_tell_moves, od_tell_moves, .func (PySem.W.fnOf "tell_moves" "tell_moves" (defArgs s_tell_moves) (defBody s_tell_moves) (defScope s_tell_moves) .none kV_tell_moves dc_tell_moves pm_tell_moves an_tell_moves cd_tell_moves ct_tell_moves), sl_tell_moves⟩)
    (c_tell_moves : PySem.W.codeIn K cd_tell_moves "tell_moves" = true)
    (k_tell_moves : PySem.W.keepIn K (.ref f_tell_moves) = true)
    (a_tell_plan : PySem.W.nsIn K mainGlobals "tell_plan" = some (some (.ref f_tell_plan)))
    (l_tell_plan : K.lookup f_tell_plan = some ⟨oc_tell_plan, od_tell_plan, .func (PySem.W.fnOf "tell_plan" "tell_plan" (defArgs s_tell_plan) (defBody s_tell_plan) (defScope s_tell_plan) .none kV_tell_plan dc_tell_plan pm_tell_plan an_tell_plan cd_tell_plan ct_tell_plan), sl_tell_plan⟩)
    (c_tell_plan : PySem.W.codeIn K cd_tell_plan "tell_plan" = true)
    (k_tell_plan : PySem.W.keepIn K (.ref f_tell_plan) = true)
    (a_find_drain : PySem.W.nsIn K mainGlobals "find_drain" = some (some (.ref f_find_drain)))
    (l_find_drain : K.lookup f_find_drain = some ⟨oc_find_drain, od_find_drain, .func (PySem.W.fnOf "find_drain" "find_drain" (defArgs s_find_drain) (defBody s_find_drain) (defScope s_find_drain) .none kV_find_drain dc_find_drain pm_find_drain an_find_drain cd_find_drain ct_find_drain), sl_find_drain⟩)
    (c_find_drain : PySem.W.codeIn K cd_find_drain "find_drain" = true)
    (k_find_drain : PySem.W.keepIn K (.ref f_find_drain) = true)
    (a_is_target_form : PySem.W.nsIn K mainGlobals "is_target_form" = some (some (.ref f_is_target_form)))
    (l_is_target_form : K.lookup f_is_target_form = some ⟨oc_is_target_form, od_is_target_form, .func (PySem.W.fnOf "is_target_form" "is_target_form" (defArgs s_is_target_form) (defBody s_is_target_form) (defScope s_is_target_form) .none kV_is_target_form dc_is_target_form pm_is_target_form an_is_target_form cd_is_target_form ct_is_target_form), sl_is_target_form⟩)
    (c_is_target_form : PySem.W.codeIn K cd_is_target_form "is_target_form" = true)
    (k_is_target_form : PySem.W.keepIn K (.ref f_is_target_form) = true)
    (a_add_link : PySem.W.nsIn K mainGlobals "add_link" = some (some (.ref f_add_link)))
    (l_add_link : K.lookup f_add_link = some ⟨oc_add_link, od_add_link, .func (PySem.W.fnOf "add_link" "add_link" (defArgs s_add_link) (defBody s_add_link) (defScope s_add_link) .none kV_add_link dc_add_link pm_add_link an_add_link cd_add_link ct_add_link), sl_add_link⟩)
    (c_add_link : PySem.W.codeIn K cd_add_link "add_link" = true)
    (k_add_link : PySem.W.keepIn K (.ref f_add_link) = true)
    (a_add_flow : PySem.W.nsIn K mainGlobals "add_flow" = some (some (.ref f_add_flow)))
    (l_add_flow : K.lookup f_add_flow = some ⟨oc_add_flow, od_add_flow, .func (PySem.W.fnOf "add_flow" "add_flow" (defArgs s_add_flow) (defBody s_add_flow) (defScope s_add_flow) .none kV_add_flow dc_add_flow pm_add_flow an_add_flow cd_add_flow ct_add_flow), sl_add_flow⟩)
    (c_add_flow : PySem.W.codeIn K cd_add_flow "add_flow" = true)
    (k_add_flow : PySem.W.keepIn K (.ref f_add_flow) = true)
    (a_place_flow : PySem.W.nsIn K mainGlobals "place_flow" = some (some (.ref f_place_flow)))
    (l_place_flow : K.lookup f_place_flow = some ⟨oc_place_flow, od_place_flow, .func (PySem.W.fnOf "place_flow" "place_flow" (defArgs s_place_flow) (defBody s_place_flow) (defScope s_place_flow) .none kV_place_flow dc_place_flow pm_place_flow an_place_flow cd_place_flow ct_place_flow), sl_place_flow⟩)
    (c_place_flow : PySem.W.codeIn K cd_place_flow "place_flow" = true)
    (k_place_flow : PySem.W.keepIn K (.ref f_place_flow) = true)
    (a_stop_flow : PySem.W.nsIn K mainGlobals "stop_flow" = some (some (.ref f_stop_flow)))
    (l_stop_flow : K.lookup f_stop_flow = some ⟨oc_stop_flow, od_stop_flow, .func (PySem.W.fnOf "stop_flow" "stop_flow" (defArgs s_stop_flow) (defBody s_stop_flow) (defScope s_stop_flow) .none kV_stop_flow dc_stop_flow pm_stop_flow an_stop_flow cd_stop_flow ct_stop_flow), sl_stop_flow⟩)
    (c_stop_flow : PySem.W.codeIn K cd_stop_flow "stop_flow" = true)
    (k_stop_flow : PySem.W.keepIn K (.ref f_stop_flow) = true)
    (a_move_flow : PySem.W.nsIn K mainGlobals "move_flow" = some (some (.ref f_move_flow)))
    (l_move_flow : K.lookup f_move_flow = some ⟨oc_move_flow, od_move_flow, .func (PySem.W.fnOf "move_flow" "move_flow" (defArgs s_move_flow) (defBody s_move_flow) (defScope s_move_flow) .none kV_move_flow dc_move_flow pm_move_flow an_move_flow cd_move_flow ct_move_flow), sl_move_flow⟩)
    (c_move_flow : PySem.W.codeIn K cd_move_flow "move_flow" = true)
    (k_move_flow : PySem.W.keepIn K (.ref f_move_flow) = true)
    (a_set_capacity : PySem.W.nsIn K mainGlobals "set_capacity" = some (some (.ref f_set_capacity)))
    (l_set_capacity : K.lookup f_set_capacity = some ⟨oc_set_capacity, od_set_capacity, .func (PySem.W.fnOf "set_capacity" "set_capacity" (defArgs s_set_capacity) (defBody s_set_capacity) (defScope s_set_capacity) .none kV_set_capacity dc_set_capacity pm_set_capacity an_set_capacity cd_set_capacity ct_set_capacity), sl_set_capacity⟩)
    (c_set_capacity : PySem.W.codeIn K cd_set_capacity "set_capacity" = true)
    (k_set_capacity : PySem.W.keepIn K (.ref f_set_capacity) = true)
    (a_add_path : PySem.W.nsIn K mainGlobals "add_path" = some (some (.ref f_add_path)))
    (l_add_path : K.lookup f_add_path = some ⟨oc_add_path, od_add_path, .func (PySem.W.fnOf "add_path" "add_path" (defArgs s_add_path) (defBody s_add_path) (defScope s_add_path) .none kV_add_path dc_add_path pm_add_path an_add_path cd_add_path ct_add_path), sl_add_path⟩)
    (c_add_path : PySem.W.codeIn K cd_add_path "add_path" = true)
    (k_add_path : PySem.W.keepIn K (.ref f_add_path) = true)
    (a_tell_assignment : PySem.W.nsIn K mainGlobals "tell_assignment" = some (some (.ref f_tell_assignment)))
    (l_tell_assignment : K.lookup f_tell_assignment = some ⟨oc_tell_assignment, od_tell_assignment, .func (PySem.W.fnOf "tell_assignment" "tell_assignment" (defArgs s_tell_assignment) (defBody s_tell_assignment) (defScope s_tell_assignment) .none kV_tell_assignment dc_tell_assignment pm_tell_assignment an_tell_assignment cd_tell_assignment ct_tell_assignment), sl_tell_assignment⟩)
    (c_tell_assignment : PySem.W.codeIn K cd_tell_assignment "tell_assignment" = true)
    (k_tell_assignment : PySem.W.keepIn K (.ref f_tell_assignment) = true)
    (a_tell_link_loads : PySem.W.nsIn K mainGlobals "tell_link_loads" = some (some (.ref f_tell_link_loads)))
    (l_tell_link_loads : K.lookup f_tell_link_loads = some ⟨oc_tell_link_loads, od_tell_link_loads, .func (PySem.W.fnOf "tell_link_loads" "tell_link_loads" (defArgs s_tell_link_loads) (defBody s_tell_link_loads) (defScope s_tell_link_loads) .none kV_tell_link_loads dc_tell_link_loads pm_tell_link_loads an_tell_link_loads cd_tell_link_loads ct_tell_link_loads), sl_tell_link_loads⟩)
    (c_tell_link_loads : PySem.W.codeIn K cd_tell_link_loads "tell_link_loads" = true)
    (k_tell_link_loads : PySem.W.keepIn K (.ref f_tell_link_loads) = true)
    (a_create_network : PySem.W.nsIn K mainGlobals "create_network" = some (some (.ref f_create_network)))
    (l_create_network : K.lookup f_create_network = some ⟨oc_create_network, od_create_network, .func (PySem.W.fnOf "create_network" "create_network" (defArgs s_create_network) (defBody s_create_network) (defScope s_create_network) .none kV_create_network dc_create_network pm_create_network an_create_network cd_create_network ct_create_network), sl_create_network⟩)
    (c_create_network : PySem.W.codeIn K cd_create_network "create_network" = true)
    (k_create_network : PySem.W.keepIn K (.ref f_create_network) = true)
    (a_plan_to : PySem.W.nsIn K mainGlobals "plan_to" = some (some (.ref f_plan_to)))
    (l_plan_to : K.lookup f_plan_to = some ⟨oc_plan_to, od_plan_to, .func (PySem.W.fnOf "plan_to" "plan_to" (defArgs s_plan_to) (defBody s_plan_to) (defScope s_plan_to) .none kV_plan_to dc_plan_to pm_plan_to an_plan_to cd_plan_to ct_plan_to), sl_plan_to⟩)
    (c_plan_to : PySem.W.codeIn K cd_plan_to "plan_to" = true)
    (k_plan_to : PySem.W.keepIn K (.ref f_plan_to) = true)
    (a_plan_link_drain : PySem.W.nsIn K mainGlobals "plan_link_drain" = some (some (.ref f_plan_link_drain)))
    (l_plan_link_drain : K.lookup f_plan_link_drain = some ⟨oc_plan_link_drain, od_plan_link_drain, .func (PySem.W.fnOf "plan_link_drain" "plan_link_drain" (defArgs s_plan_link_drain) (defBody s_plan_link_drain) (defScope s_plan_link_drain) .none kV_plan_link_drain dc_plan_link_drain pm_plan_link_drain an_plan_link_drain cd_plan_link_drain ct_plan_link_drain), sl_plan_link_drain⟩)
    (c_plan_link_drain : PySem.W.codeIn K cd_plan_link_drain "plan_link_drain" = true)
    (k_plan_link_drain : PySem.W.keepIn K (.ref f_plan_link_drain) = true)
    (a_plan_node_drain : PySem.W.nsIn K mainGlobals "plan_node_drain" = some (some (.ref f_plan_node_drain)))
    (l_plan_node_drain : K.lookup f_plan_node_drain = some ⟨oc_plan_node_drain, od_plan_node_drain, .func (PySem.W.fnOf "plan_node_drain" "plan_node_drain" (defArgs s_plan_node_drain) (defBody s_plan_node_drain) (defScope s_plan_node_drain) .none kV_plan_node_drain dc_plan_node_drain pm_plan_node_drain an_plan_node_drain cd_plan_node_drain ct_plan_node_drain), sl_plan_node_drain⟩)
    (c_plan_node_drain : PySem.W.codeIn K cd_plan_node_drain "plan_node_drain" = true)
    (k_plan_node_drain : PySem.W.keepIn K (.ref f_plan_node_drain) = true)
    (a_drain_link : PySem.W.nsIn K mainGlobals "drain_link" = some (some (.ref f_drain_link)))
    (l_drain_link : K.lookup f_drain_link = some ⟨oc_drain_link, od_drain_link, .func (PySem.W.fnOf "drain_link" "drain_link" (defArgs s_drain_link) (defBody s_drain_link) (defScope s_drain_link) .none kV_drain_link dc_drain_link pm_drain_link an_drain_link cd_drain_link ct_drain_link), sl_drain_link⟩)
    (c_drain_link : PySem.W.codeIn K cd_drain_link "drain_link" = true)
    (k_drain_link : PySem.W.keepIn K (.ref f_drain_link) = true)
    (a_tell_allowed_moves : PySem.W.nsIn K mainGlobals "tell_allowed_moves" = some (some (.ref f_tell_allowed_moves)))
    (l_tell_allowed_moves : K.lookup f_tell_allowed_moves = some ⟨oc_tell_allowed_moves, od_tell_allowed_moves, .func (PySem.W.fnOf "tell_allowed_moves" "tell_allowed_moves" (defArgs s_tell_allowed_moves) (defBody s_tell_allowed_moves) (defScope s_tell_allowed_moves) .none kV_tell_allowed_moves dc_tell_allowed_moves pm_tell_allowed_moves an_tell_allowed_moves cd_tell_allowed_moves ct_tell_allowed_moves), sl_tell_allowed_moves⟩)
    (c_tell_allowed_moves : PySem.W.codeIn K cd_tell_allowed_moves "tell_allowed_moves" = true)
    (k_tell_allowed_moves : PySem.W.keepIn K (.ref f_tell_allowed_moves) = true)
    (a_tell_reachable_count : PySem.W.nsIn K mainGlobals "tell_reachable_count" = some (some (.ref f_tell_reachable_count)))
    (l_tell_reachable_count : K.lookup f_tell_reachable_count = some ⟨oc_tell_reachable_count, od_tell_reachable_count, .func (PySem.W.fnOf "tell_reachable_count" "tell_reachable_count" (defArgs s_tell_reachable_count) (defBody s_tell_reachable_count) (defScope s_tell_reachable_count) .none kV_tell_reachable_count dc_tell_reachable_count pm_tell_reachable_count an_tell_reachable_count cd_tell_reachable_count ct_tell_reachable_count), sl_tell_reachable_count⟩)
    (c_tell_reachable_count : PySem.W.codeIn K cd_tell_reachable_count "tell_reachable_count" = true)
    (k_tell_reachable_count : PySem.W.keepIn K (.ref f_tell_reachable_count) = true)
    (a_tell_component_count : PySem.W.nsIn K mainGlobals "tell_component_count" = some (some (.ref f_tell_component_count)))
    (l_tell_component_count : K.lookup f_tell_component_count = some ⟨oc_tell_component_count, od_tell_component_count, .func (PySem.W.fnOf "tell_component_count" "tell_component_count" (defArgs s_tell_component_count) (defBody s_tell_component_count) (defScope s_tell_component_count) .none kV_tell_component_count dc_tell_component_count pm_tell_component_count an_tell_component_count cd_tell_component_count ct_tell_component_count), sl_tell_component_count⟩)
    (c_tell_component_count : PySem.W.codeIn K cd_tell_component_count "tell_component_count" = true)
    (k_tell_component_count : PySem.W.keepIn K (.ref f_tell_component_count) = true)
    (a_tell_stuck_flows : PySem.W.nsIn K mainGlobals "tell_stuck_flows" = some (some (.ref f_tell_stuck_flows)))
    (l_tell_stuck_flows : K.lookup f_tell_stuck_flows = some ⟨oc_tell_stuck_flows, od_tell_stuck_flows, .func (PySem.W.fnOf "tell_stuck_flows" "tell_stuck_flows" (defArgs s_tell_stuck_flows) (defBody s_tell_stuck_flows) (defScope s_tell_stuck_flows) .none kV_tell_stuck_flows dc_tell_stuck_flows pm_tell_stuck_flows an_tell_stuck_flows cd_tell_stuck_flows ct_tell_stuck_flows), sl_tell_stuck_flows⟩)
    (c_tell_stuck_flows : PySem.W.codeIn K cd_tell_stuck_flows "tell_stuck_flows" = true)
    (k_tell_stuck_flows : PySem.W.keepIn K (.ref f_tell_stuck_flows) = true)
    (a_tell_flow_paths : PySem.W.nsIn K mainGlobals "tell_flow_paths" = some (some (.ref f_tell_flow_paths)))
    (l_tell_flow_paths : K.lookup f_tell_flow_paths = some ⟨oc_tell_flow_paths, od_tell_flow_paths, .func (PySem.W.fnOf "tell_flow_paths" "tell_flow_paths" (defArgs s_tell_flow_paths) (defBody s_tell_flow_paths) (defScope s_tell_flow_paths) .none kV_tell_flow_paths dc_tell_flow_paths pm_tell_flow_paths an_tell_flow_paths cd_tell_flow_paths ct_tell_flow_paths), sl_tell_flow_paths⟩)
    (c_tell_flow_paths : PySem.W.codeIn K cd_tell_flow_paths "tell_flow_paths" = true)
    (k_tell_flow_paths : PySem.W.keepIn K (.ref f_tell_flow_paths) = true)
    (a_tell_totals : PySem.W.nsIn K mainGlobals "tell_totals" = some (some (.ref f_tell_totals)))
    (l_tell_totals : K.lookup f_tell_totals = some ⟨oc_tell_totals, od_tell_totals, .func (PySem.W.fnOf "tell_totals" "tell_totals" (defArgs s_tell_totals) (defBody s_tell_totals) (defScope s_tell_totals) .none kV_tell_totals dc_tell_totals pm_tell_totals an_tell_totals cd_tell_totals ct_tell_totals), sl_tell_totals⟩)
    (c_tell_totals : PySem.W.codeIn K cd_tell_totals "tell_totals" = true)
    (k_tell_totals : PySem.W.keepIn K (.ref f_tell_totals) = true)
    (a_read_calls : PySem.W.nsIn K mainGlobals "read_calls" = some (some (.ref f_read_calls)))
    (l_read_calls : K.lookup f_read_calls = some ⟨oc_read_calls, od_read_calls, .func (PySem.W.fnOf "read_calls" "read_calls" (defArgs s_read_calls) (defBody s_read_calls) (defScope s_read_calls) .none kV_read_calls dc_read_calls pm_read_calls an_read_calls cd_read_calls ct_read_calls), sl_read_calls⟩)
    (c_read_calls : PySem.W.codeIn K cd_read_calls "read_calls" = true)
    (k_read_calls : PySem.W.keepIn K (.ref f_read_calls) = true)
    (a_answer_change : PySem.W.nsIn K mainGlobals "answer_change" = some (some (.ref f_answer_change)))
    (l_answer_change : K.lookup f_answer_change = some ⟨oc_answer_change, od_answer_change, .func (PySem.W.fnOf "answer_change" "answer_change" (defArgs s_answer_change) (defBody s_answer_change) (defScope s_answer_change) .none kV_answer_change dc_answer_change pm_answer_change an_answer_change cd_answer_change ct_answer_change), sl_answer_change⟩)
    (c_answer_change : PySem.W.codeIn K cd_answer_change "answer_change" = true)
    (k_answer_change : PySem.W.keepIn K (.ref f_answer_change) = true)
    (a_answer_plan : PySem.W.nsIn K mainGlobals "answer_plan" = some (some (.ref f_answer_plan)))
    (l_answer_plan : K.lookup f_answer_plan = some ⟨oc_answer_plan, od_answer_plan, .func (PySem.W.fnOf "answer_plan" "answer_plan" (defArgs s_answer_plan) (defBody s_answer_plan) (defScope s_answer_plan) .none kV_answer_plan dc_answer_plan pm_answer_plan an_answer_plan cd_answer_plan ct_answer_plan), sl_answer_plan⟩)
    (c_answer_plan : PySem.W.codeIn K cd_answer_plan "answer_plan" = true)
    (k_answer_plan : PySem.W.keepIn K (.ref f_answer_plan) = true)
    (a_answer_question : PySem.W.nsIn K mainGlobals "answer_question" = some (some (.ref f_answer_question)))
    (l_answer_question : K.lookup f_answer_question = some ⟨oc_answer_question, od_answer_question, .func (PySem.W.fnOf "answer_question" "answer_question" (defArgs s_answer_question) (defBody s_answer_question) (defScope s_answer_question) .none kV_answer_question dc_answer_question pm_answer_question an_answer_question cd_answer_question ct_answer_question), sl_answer_question⟩)
    (c_answer_question : PySem.W.codeIn K cd_answer_question "answer_question" = true)
    (k_answer_question : PySem.W.keepIn K (.ref f_answer_question) = true)
    (a_answer_call : PySem.W.nsIn K mainGlobals "answer_call" = some (some (.ref f_answer_call)))
    (l_answer_call : K.lookup f_answer_call = some ⟨oc_answer_call, od_answer_call, .func (PySem.W.fnOf "answer_call" "answer_call" (defArgs s_answer_call) (defBody s_answer_call) (defScope s_answer_call) .none kV_answer_call dc_answer_call pm_answer_call an_answer_call cd_answer_call ct_answer_call), sl_answer_call⟩)
    (c_answer_call : PySem.W.codeIn K cd_answer_call "answer_call" = true)
    (k_answer_call : PySem.W.keepIn K (.ref f_answer_call) = true)
    (a_answers : PySem.W.nsIn K mainGlobals "answers" = some (some (.ref f_answers)))
    (l_answers : K.lookup f_answers = some ⟨oc_answers, od_answers, .func (PySem.W.fnOf "answers" "answers" (defArgs s_answers) (defBody s_answers) (defScope s_answers) .none kV_answers dc_answers pm_answers an_answers cd_answers ct_answers), sl_answers⟩)
    (c_answers : PySem.W.codeIn K cd_answers "answers" = true)
    (k_answers : PySem.W.keepIn K (.ref f_answers) = true)
    (g_MISSING : PySem.W.nsIn K mainGlobals "MISSING" = some (some (.int (-2) t_MISSING)))
    (g_INACTIVE : PySem.W.nsIn K mainGlobals "INACTIVE" = some (some (.int (-6) t_INACTIVE)))
    (g_NO_NETWORK : PySem.W.nsIn K mainGlobals "NO_NETWORK" = some (some (.int (-11) t_NO_NETWORK)))
    (g_TAKEN : PySem.W.nsIn K mainGlobals "TAKEN" = some (some (.int (-17) t_TAKEN)))
    (g_INVALID : PySem.W.nsIn K mainGlobals "INVALID" = some (some (.int (-22) t_INVALID)))
    (g_LIMIT_REACHED : PySem.W.nsIn K mainGlobals "LIMIT_REACHED" = some (some (.int (-28) t_LIMIT_REACHED)))
    (g_NO_ROOM : PySem.W.nsIn K mainGlobals "NO_ROOM" = some (some (.int (-33) t_NO_ROOM)))
    (g_NO_PLAN : PySem.W.nsIn K mainGlobals "NO_PLAN" = some (some (.int (-33) t_NO_PLAN)))
    (g_INFEASIBLE : PySem.W.nsIn K mainGlobals "INFEASIBLE" = some (some (.int (-35) t_INFEASIBLE)))
    (g_LEAST_NODES : PySem.W.nsIn K mainGlobals "LEAST_NODES" = some (some (.int (2) t_LEAST_NODES)))
    (g_MOST_NODES : PySem.W.nsIn K mainGlobals "MOST_NODES" = some (some (.int (6) t_MOST_NODES)))
    (g_MOST_LINKS : PySem.W.nsIn K mainGlobals "MOST_LINKS" = some (some (.int (10) t_MOST_LINKS)))
    (g_MOST_CAPACITY : PySem.W.nsIn K mainGlobals "MOST_CAPACITY" = some (some (.int (99) t_MOST_CAPACITY)))
    (g_MOST_FLOWS : PySem.W.nsIn K mainGlobals "MOST_FLOWS" = some (some (.int (5) t_MOST_FLOWS)))
    (g_LEAST_DEMAND : PySem.W.nsIn K mainGlobals "LEAST_DEMAND" = some (some (.int (1) t_LEAST_DEMAND)))
    (g_MOST_DEMAND : PySem.W.nsIn K mainGlobals "MOST_DEMAND" = some (some (.int (99) t_MOST_DEMAND)))
    (g_MOST_PATHS : PySem.W.nsIn K mainGlobals "MOST_PATHS" = some (some (.int (3) t_MOST_PATHS)))
    (g_CREATE_NETWORK : PySem.W.nsIn K mainGlobals "CREATE_NETWORK" = some (some (.int (0) t_CREATE_NETWORK)))
    (g_ADD_LINK : PySem.W.nsIn K mainGlobals "ADD_LINK" = some (some (.int (1) t_ADD_LINK)))
    (g_ADD_FLOW : PySem.W.nsIn K mainGlobals "ADD_FLOW" = some (some (.int (2) t_ADD_FLOW)))
    (g_ADD_PATH : PySem.W.nsIn K mainGlobals "ADD_PATH" = some (some (.int (3) t_ADD_PATH)))
    (g_PLACE_FLOW : PySem.W.nsIn K mainGlobals "PLACE_FLOW" = some (some (.int (4) t_PLACE_FLOW)))
    (g_STOP_FLOW : PySem.W.nsIn K mainGlobals "STOP_FLOW" = some (some (.int (5) t_STOP_FLOW)))
    (g_MOVE_FLOW : PySem.W.nsIn K mainGlobals "MOVE_FLOW" = some (some (.int (6) t_MOVE_FLOW)))
    (g_SET_CAPACITY : PySem.W.nsIn K mainGlobals "SET_CAPACITY" = some (some (.int (7) t_SET_CAPACITY)))
    (g_LINK_LOADS : PySem.W.nsIn K mainGlobals "LINK_LOADS" = some (some (.int (8) t_LINK_LOADS)))
    (g_ASSIGNMENT : PySem.W.nsIn K mainGlobals "ASSIGNMENT" = some (some (.int (9) t_ASSIGNMENT)))
    (g_ALLOWED_MOVES : PySem.W.nsIn K mainGlobals "ALLOWED_MOVES" = some (some (.int (10) t_ALLOWED_MOVES)))
    (g_PLAN_TO : PySem.W.nsIn K mainGlobals "PLAN_TO" = some (some (.int (11) t_PLAN_TO)))
    (g_PLAN_LINK_DRAIN : PySem.W.nsIn K mainGlobals "PLAN_LINK_DRAIN" = some (some (.int (12) t_PLAN_LINK_DRAIN)))
    (g_PLAN_NODE_DRAIN : PySem.W.nsIn K mainGlobals "PLAN_NODE_DRAIN" = some (some (.int (13) t_PLAN_NODE_DRAIN)))
    (g_DRAIN_LINK : PySem.W.nsIn K mainGlobals "DRAIN_LINK" = some (some (.int (14) t_DRAIN_LINK)))
    (g_REACHABLE_COUNT : PySem.W.nsIn K mainGlobals "REACHABLE_COUNT" = some (some (.int (15) t_REACHABLE_COUNT)))
    (g_COMPONENT_COUNT : PySem.W.nsIn K mainGlobals "COMPONENT_COUNT" = some (some (.int (16) t_COMPONENT_COUNT)))
    (g_STUCK_FLOWS : PySem.W.nsIn K mainGlobals "STUCK_FLOWS" = some (some (.int (17) t_STUCK_FLOWS)))
    (g_FLOW_PATHS : PySem.W.nsIn K mainGlobals "FLOW_PATHS" = some (some (.int (18) t_FLOW_PATHS)))
    (g_NUMBER_COUNTS : PySem.W.nsIn K mainGlobals "NUMBER_COUNTS" = some (some (.ref u_NUMBER_COUNTS)))
    (l_NUMBER_COUNTS : K.lookup u_NUMBER_COUNTS = some ⟨.type "tuple", od_NUMBER_COUNTS, .seq #[.int 1 t_NUMBER_COUNTS_0, .int 3 t_NUMBER_COUNTS_1, .int 3 t_NUMBER_COUNTS_2, .int 1 t_NUMBER_COUNTS_3, .int 2 t_NUMBER_COUNTS_4, .int 1 t_NUMBER_COUNTS_5, .int 2 t_NUMBER_COUNTS_6, .int 2 t_NUMBER_COUNTS_7, .int 0 t_NUMBER_COUNTS_8, .int 0 t_NUMBER_COUNTS_9, .int 0 t_NUMBER_COUNTS_10, .int 0 t_NUMBER_COUNTS_11, .int 1 t_NUMBER_COUNTS_12, .int 1 t_NUMBER_COUNTS_13, .int 1 t_NUMBER_COUNTS_14, .int 0 t_NUMBER_COUNTS_15, .int 0 t_NUMBER_COUNTS_16, .int 1 t_NUMBER_COUNTS_17, .int 1 t_NUMBER_COUNTS_18, .int 0 t_NUMBER_COUNTS_19] n_NUMBER_COUNTS, sl_NUMBER_COUNTS⟩)
    (b_len : PySem.W.nsIn K mainGlobals "len" = some none)
    (b_set : PySem.W.nsIn K mainGlobals "set" = some none)
    (b_zip : PySem.W.nsIn K mainGlobals "zip" = some none)
    (b_enumerate : PySem.W.nsIn K mainGlobals "enumerate" = some none)
    (b_any : PySem.W.nsIn K mainGlobals "any" = some none)
    (b_all : PySem.W.nsIn K mainGlobals "all" = some none)
    (b_tuple : PySem.W.nsIn K mainGlobals "tuple" = some none)
    (b_list : PySem.W.nsIn K mainGlobals "list" = some none)
    (b_range : PySem.W.nsIn K mainGlobals "range" = some none)
    : ∃ fd : FuncData, (∀ (s : Shared) (us : List Value), us.length = (["calls"] : List Str).length → BindsTo s fd ⟨us, []⟩ ((["calls"] : List Str).zip us)) ∧ ∀ base : Heap, K.In base → base.Ns mainGlobals mg → FnOk P w K mg base CX0 9 fa fd ["calls"] (sp_answers K) := by
  have e := hfa.symm.trans (PySem.W.mg_of X G a_answers)
  cases e
  have T : Txt K mg ⟨C_Link, C_Path, C_Flow, C_Network, C_Call, C_Instance⟩ := ⟨⟨_, PySem.W.mg_of X G g_MISSING, ⟨_, rfl⟩⟩, ⟨_, PySem.W.mg_of X G g_INACTIVE, ⟨_, rfl⟩⟩, ⟨_, PySem.W.mg_of X G g_NO_NETWORK, ⟨_, rfl⟩⟩, ⟨_, PySem.W.mg_of X G g_TAKEN, ⟨_, rfl⟩⟩, ⟨_, PySem.W.mg_of X G g_INVALID, ⟨_, rfl⟩⟩, ⟨_, PySem.W.mg_of X G g_LIMIT_REACHED, ⟨_, rfl⟩⟩, ⟨_, PySem.W.mg_of X G g_NO_ROOM, ⟨_, rfl⟩⟩, ⟨_, PySem.W.mg_of X G g_NO_PLAN, ⟨_, rfl⟩⟩, ⟨_, PySem.W.mg_of X G g_INFEASIBLE, ⟨_, rfl⟩⟩, ⟨_, PySem.W.mg_of X G g_LEAST_NODES, ⟨_, rfl⟩⟩, ⟨_, PySem.W.mg_of X G g_MOST_NODES, ⟨_, rfl⟩⟩, ⟨_, PySem.W.mg_of X G g_MOST_LINKS, ⟨_, rfl⟩⟩, ⟨_, PySem.W.mg_of X G g_MOST_CAPACITY, ⟨_, rfl⟩⟩, ⟨_, PySem.W.mg_of X G g_MOST_FLOWS, ⟨_, rfl⟩⟩, ⟨_, PySem.W.mg_of X G g_LEAST_DEMAND, ⟨_, rfl⟩⟩, ⟨_, PySem.W.mg_of X G g_MOST_DEMAND, ⟨_, rfl⟩⟩, ⟨_, PySem.W.mg_of X G g_MOST_PATHS, ⟨_, rfl⟩⟩, ⟨_, PySem.W.mg_of X G g_CREATE_NETWORK, ⟨_, rfl⟩⟩, ⟨_, PySem.W.mg_of X G g_ADD_LINK, ⟨_, rfl⟩⟩, ⟨_, PySem.W.mg_of X G g_ADD_FLOW, ⟨_, rfl⟩⟩, ⟨_, PySem.W.mg_of X G g_ADD_PATH, ⟨_, rfl⟩⟩, ⟨_, PySem.W.mg_of X G g_PLACE_FLOW, ⟨_, rfl⟩⟩, ⟨_, PySem.W.mg_of X G g_STOP_FLOW, ⟨_, rfl⟩⟩, ⟨_, PySem.W.mg_of X G g_MOVE_FLOW, ⟨_, rfl⟩⟩, ⟨_, PySem.W.mg_of X G g_SET_CAPACITY, ⟨_, rfl⟩⟩, ⟨_, PySem.W.mg_of X G g_LINK_LOADS, ⟨_, rfl⟩⟩, ⟨_, PySem.W.mg_of X G g_ASSIGNMENT, ⟨_, rfl⟩⟩, ⟨_, PySem.W.mg_of X G g_ALLOWED_MOVES, ⟨_, rfl⟩⟩, ⟨_, PySem.W.mg_of X G g_PLAN_TO, ⟨_, rfl⟩⟩, ⟨_, PySem.W.mg_of X G g_PLAN_LINK_DRAIN, ⟨_, rfl⟩⟩, ⟨_, PySem.W.mg_of X G g_PLAN_NODE_DRAIN, ⟨_, rfl⟩⟩, ⟨_, PySem.W.mg_of X G g_DRAIN_LINK, ⟨_, rfl⟩⟩, ⟨_, PySem.W.mg_of X G g_REACHABLE_COUNT, ⟨_, rfl⟩⟩, ⟨_, PySem.W.mg_of X G g_COMPONENT_COUNT, ⟨_, rfl⟩⟩, ⟨_, PySem.W.mg_of X G g_STUCK_FLOWS, ⟨_, rfl⟩⟩, ⟨_, PySem.W.mg_of X G g_FLOW_PATHS, ⟨_, rfl⟩⟩, ⟨u_NUMBER_COUNTS, ⟨_, PySem.W.mg_of X G g_NUMBER_COUNTS, rfl⟩, fun H => .inr ⟨_, _, _, l_NUMBER_COUNTS, rfl, rfl, (by show 20 ≤ sizeLine; decide), (.cons ⟨_, rfl⟩ (.cons ⟨_, rfl⟩ (.cons ⟨_, rfl⟩ (.cons ⟨_, rfl⟩ (.cons ⟨_, rfl⟩ (.cons ⟨_, rfl⟩ (.cons ⟨_, rfl⟩ (.cons ⟨_, rfl⟩ (.cons ⟨_, rfl⟩ (.cons ⟨_, rfl⟩ (.cons ⟨_, rfl⟩ (.cons ⟨_, rfl⟩ (.cons ⟨_, rfl⟩ (.cons ⟨_, rfl⟩ (.cons ⟨_, rfl⟩ (.cons ⟨_, rfl⟩ (.cons ⟨_, rfl⟩ (.cons ⟨_, rfl⟩ (.cons ⟨_, rfl⟩ (.cons ⟨_, rfl⟩ .nil))))))))))))))))))))⟩⟩, PySem.W.mg_none_of X G b_len, PySem.W.mg_none_of X G b_set, PySem.W.mg_none_of X G b_zip, PySem.W.mg_none_of X G b_enumerate, PySem.W.mg_none_of X G b_any, PySem.W.mg_none_of X G b_all, PySem.W.mg_none_of X G b_tuple, PySem.W.mg_none_of X G b_list, PySem.W.mg_none_of X G b_range, ⟨pg_Link, hd_Link, po_Link, sa_Link⟩, n_Link_node_a, n_Link_node_b, n_Link_capacity, ⟨pg_Path, hd_Path, po_Path, sa_Path⟩, n_Path_nodes, n_Path_links, ⟨pg_Flow, hd_Flow, po_Flow, sa_Flow⟩, n_Flow_source, n_Flow_destination, n_Flow_demand, n_Flow_paths, ⟨pg_Network, hd_Network, po_Network, sa_Network⟩, n_Network_node_count, n_Network_links, n_Network_flows, n_Network_assignment, ⟨pg_Call, hd_Call, po_Call, sa_Call⟩, n_Call_operation, n_Call_numbers, n_Call_row, ⟨pg_Instance, hd_Instance, po_Instance, sa_Instance⟩, n_Instance_network⟩
  have F_Link_init := fun_mk (st := s_Link_init) l_Link_init c_Link_init k_Link_init
  have B_Link_init := F_Link_init.binds (ps := ["self", "node_a", "node_b", "capacity"]) fun _ _ _ _ _ _ us hl => match us, hl with | [_, _, _, _], _ => rfl
  have F_Path_init := fun_mk (st := s_Path_init) l_Path_init c_Path_init k_Path_init
  have B_Path_init := F_Path_init.binds (ps := ["self", "nodes", "links"]) fun _ _ _ _ _ _ us hl => match us, hl with | [_, _, _], _ => rfl
  have F_Flow_init := fun_mk (st := s_Flow_init) l_Flow_init c_Flow_init k_Flow_init
  have B_Flow_init := F_Flow_init.binds (ps := ["self", "source", "destination", "demand"]) fun _ _ _ _ _ _ us hl => match us, hl with | [_, _, _, _], _ => rfl
  have F_Network_init := fun_mk (st := s_Network_init) l_Network_init c_Network_init k_Network_init
  have B_Network_init := F_Network_init.binds (ps := ["self", "node_count"]) fun _ _ _ _ _ _ us hl => match us, hl with | [_, _], _ => rfl
  have F_Call_init := fun_mk (st := s_Call_init) l_Call_init c_Call_init k_Call_init
  have B_Call_init := F_Call_init.binds (ps := ["self", "operation", "numbers", "row"]) fun _ _ _ _ _ _ us hl => match us, hl with | [_, _, _, _], _ => rfl
  have F_Instance_init := fun_mk (st := s_Instance_init) l_Instance_init c_Instance_init k_Instance_init
  have B_Instance_init := F_Instance_init.binds (ps := ["self"]) fun _ _ _ _ _ _ us hl => match us, hl with | [_], _ => rfl
  have F_has_node := fun_mk (st := s_has_node) l_has_node c_has_node k_has_node
  have B_has_node := F_has_node.binds (ps := ["network", "node"]) fun _ _ _ _ _ _ us hl => match us, hl with | [_, _], _ => rfl
  have F_has_link := fun_mk (st := s_has_link) l_has_link c_has_link k_has_link
  have B_has_link := F_has_link.binds (ps := ["network", "link"]) fun _ _ _ _ _ _ us hl => match us, hl with | [_, _], _ => rfl
  have F_has_flow := fun_mk (st := s_has_flow) l_has_flow c_has_flow k_has_flow
  have B_has_flow := F_has_flow.binds (ps := ["network", "flow"]) fun _ _ _ _ _ _ us hl => match us, hl with | [_, _], _ => rfl
  have F_has_path := fun_mk (st := s_has_path) l_has_path c_has_path k_has_path
  have B_has_path := F_has_path.binds (ps := ["network", "flow", "path"]) fun _ _ _ _ _ _ us hl => match us, hl with | [_, _, _], _ => rfl
  have F_link_between := fun_mk (st := s_link_between) l_link_between c_link_between k_link_between
  have B_link_between := F_link_between.binds (ps := ["network", "node_a", "node_b"]) fun _ _ _ _ _ _ us hl => match us, hl with | [_, _, _], _ => rfl
  have F_links_along := fun_mk (st := s_links_along) l_links_along c_links_along k_links_along
  have B_links_along := F_links_along.binds (ps := ["network", "nodes"]) fun _ _ _ _ _ _ us hl => match us, hl with | [_, _], _ => rfl
  have F_loads_under := fun_mk (st := s_loads_under) l_loads_under c_loads_under k_loads_under
  have B_loads_under := F_loads_under.binds (ps := ["network", "assignment"]) fun _ _ _ _ _ _ us hl => match us, hl with | [_, _], _ => rfl
  have F_has_room := fun_mk (st := s_has_room) l_has_room c_has_room k_has_room
  have B_has_room := F_has_room.binds (ps := ["network", "loads", "links", "demand"]) fun _ _ _ _ _ _ us hl => match us, hl with | [_, _, _, _], _ => rfl
  have F_links_entered := fun_mk (st := s_links_entered) l_links_entered c_links_entered k_links_entered
  have B_links_entered := F_links_entered.binds (ps := ["old_path", "new_path"]) fun _ _ _ _ _ _ us hl => match us, hl with | [_, _], _ => rfl
  have F_is_path_of := fun_mk (st := s_is_path_of) l_is_path_of c_is_path_of k_is_path_of
  have B_is_path_of := F_is_path_of.binds (ps := ["network", "flow", "nodes"]) fun _ _ _ _ _ _ us hl => match us, hl with | [_, _, _], _ => rfl
  have F_is_feasible := fun_mk (st := s_is_feasible) l_is_feasible c_is_feasible k_is_feasible
  have B_is_feasible := F_is_feasible.binds (ps := ["network", "assignment"]) fun _ _ _ _ _ _ us hl => match us, hl with | [_, _], _ => rfl
  have F_uses_link := fun_mk (st := s_uses_link) l_uses_link c_uses_link k_uses_link
  have B_uses_link := F_uses_link.binds (ps := ["flow", "choice", "link"]) fun _ _ _ _ _ _ us hl => match us, hl with | [_, _, _], _ => rfl
  have F_links_at := fun_mk (st := s_links_at) l_links_at c_links_at k_links_at
  have B_links_at := F_links_at.binds (ps := ["network", "node"]) fun _ _ _ _ _ _ us hl => match us, hl with | [_, _], _ => rfl
  have F_paths_to_enter := fun_mk (st := s_paths_to_enter) l_paths_to_enter c_paths_to_enter k_paths_to_enter
  have B_paths_to_enter := F_paths_to_enter.binds (ps := ["network", "loads", "flow", "choice"]) fun _ _ _ _ _ _ us hl => match us, hl with | [_, _, _, _], _ => rfl
  have F_allowed_moves := fun_mk (st := s_allowed_moves) l_allowed_moves c_allowed_moves k_allowed_moves
  have B_allowed_moves := F_allowed_moves.binds (ps := ["network", "assignment"]) fun _ _ _ _ _ _ us hl => match us, hl with | [_, _], _ => rfl
  have F_after_move := fun_mk (st := s_after_move) l_after_move c_after_move k_after_move
  have B_after_move := F_after_move.binds (ps := ["assignment", "flow", "path"]) fun _ _ _ _ _ _ us hl => match us, hl with | [_, _, _], _ => rfl
  have F_current_assignment := fun_mk (st := s_current_assignment) l_current_assignment c_current_assignment k_current_assignment
  have B_current_assignment := F_current_assignment.binds (ps := ["network"]) fun _ _ _ _ _ _ us hl => match us, hl with | [_], _ => rfl
  have F_plans_from := fun_mk (st := s_plans_from) l_plans_from c_plans_from k_plans_from
  have B_plans_from := F_plans_from.binds (ps := ["network", "start"]) fun _ _ _ _ _ _ us hl => match us, hl with | [_, _], _ => rfl
  have F_choices_of := fun_mk (st := s_choices_of) l_choices_of c_choices_of k_choices_of
  have B_choices_of := F_choices_of.binds (ps := ["flow", "choice"]) fun _ _ _ _ _ _ us hl => match us, hl with | [_, _], _ => rfl
  have F_candidate_assignments := fun_mk (st := s_candidate_assignments) l_candidate_assignments c_candidate_assignments k_candidate_assignments
  have B_candidate_assignments := F_candidate_assignments.binds (ps := ["network"]) fun _ _ _ _ _ _ us hl => match us, hl with | [_], _ => rfl
  have F_count_components := fun_mk (st := s_count_components) l_count_components c_count_components k_count_components
  have B_count_components := F_count_components.binds (ps := ["network", "candidates"]) fun _ _ _ _ _ _ us hl => match us, hl with | [_, _], _ => rfl
  have F_is_drained := fun_mk (st := s_is_drained) l_is_drained c_is_drained k_is_drained
  have B_is_drained := F_is_drained.binds (ps := ["network", "assignment", "links"]) fun _ _ _ _ _ _ us hl => match us, hl with | [_, _, _], _ => rfl
  have F_tell_moves := fun_mk (st := s_tell_moves) l_tell_moves c_tell_moves k_tell_moves
  have B_tell_moves := F_tell_moves.binds (ps := ["moves"]) fun _ _ _ _ _ _ us hl => match us, hl with | [_], _ => rfl
  have F_tell_plan := fun_mk (st := s_tell_plan) l_tell_plan c_tell_plan k_tell_plan
  have B_tell_plan := F_tell_plan.binds (ps := ["plan"]) fun _ _ _ _ _ _ us hl => match us, hl with | [_], _ => rfl
  have F_find_drain := fun_mk (st := s_find_drain) l_find_drain c_find_drain k_find_drain
  have B_find_drain := F_find_drain.binds (ps := ["network", "links"]) fun _ _ _ _ _ _ us hl => match us, hl with | [_, _], _ => rfl
  have F_is_target_form := fun_mk (st := s_is_target_form) l_is_target_form c_is_target_form k_is_target_form
  have B_is_target_form := F_is_target_form.binds (ps := ["network", "target"]) fun _ _ _ _ _ _ us hl => match us, hl with | [_, _], _ => rfl
  have F_add_link := fun_mk (st := s_add_link) l_add_link c_add_link k_add_link
  have B_add_link := F_add_link.binds (ps := ["network", "node_a", "node_b", "capacity"]) fun _ _ _ _ _ _ us hl => match us, hl with | [_, _, _, _], _ => rfl
  have F_add_flow := fun_mk (st := s_add_flow) l_add_flow c_add_flow k_add_flow
  have B_add_flow := F_add_flow.binds (ps := ["network", "source", "destination", "demand"]) fun _ _ _ _ _ _ us hl => match us, hl with | [_, _, _, _], _ => rfl
  have F_place_flow := fun_mk (st := s_place_flow) l_place_flow c_place_flow k_place_flow
  have B_place_flow := F_place_flow.binds (ps := ["network", "flow", "path"]) fun _ _ _ _ _ _ us hl => match us, hl with | [_, _, _], _ => rfl
  have F_stop_flow := fun_mk (st := s_stop_flow) l_stop_flow c_stop_flow k_stop_flow
  have B_stop_flow := F_stop_flow.binds (ps := ["network", "flow"]) fun _ _ _ _ _ _ us hl => match us, hl with | [_, _], _ => rfl
  have F_move_flow := fun_mk (st := s_move_flow) l_move_flow c_move_flow k_move_flow
  have B_move_flow := F_move_flow.binds (ps := ["network", "flow", "path"]) fun _ _ _ _ _ _ us hl => match us, hl with | [_, _, _], _ => rfl
  have F_set_capacity := fun_mk (st := s_set_capacity) l_set_capacity c_set_capacity k_set_capacity
  have B_set_capacity := F_set_capacity.binds (ps := ["network", "link", "capacity"]) fun _ _ _ _ _ _ us hl => match us, hl with | [_, _, _], _ => rfl
  have F_add_path := fun_mk (st := s_add_path) l_add_path c_add_path k_add_path
  have B_add_path := F_add_path.binds (ps := ["network", "flow", "nodes"]) fun _ _ _ _ _ _ us hl => match us, hl with | [_, _, _], _ => rfl
  have F_tell_assignment := fun_mk (st := s_tell_assignment) l_tell_assignment c_tell_assignment k_tell_assignment
  have B_tell_assignment := F_tell_assignment.binds (ps := ["network"]) fun _ _ _ _ _ _ us hl => match us, hl with | [_], _ => rfl
  have F_tell_link_loads := fun_mk (st := s_tell_link_loads) l_tell_link_loads c_tell_link_loads k_tell_link_loads
  have B_tell_link_loads := F_tell_link_loads.binds (ps := ["network"]) fun _ _ _ _ _ _ us hl => match us, hl with | [_], _ => rfl
  have F_create_network := fun_mk (st := s_create_network) l_create_network c_create_network k_create_network
  have B_create_network := F_create_network.binds (ps := ["instance", "node_count"]) fun _ _ _ _ _ _ us hl => match us, hl with | [_, _], _ => rfl
  have F_plan_to := fun_mk (st := s_plan_to) l_plan_to c_plan_to k_plan_to
  have B_plan_to := F_plan_to.binds (ps := ["network", "target"]) fun _ _ _ _ _ _ us hl => match us, hl with | [_, _], _ => rfl
  have F_plan_link_drain := fun_mk (st := s_plan_link_drain) l_plan_link_drain c_plan_link_drain k_plan_link_drain
  have B_plan_link_drain := F_plan_link_drain.binds (ps := ["network", "link"]) fun _ _ _ _ _ _ us hl => match us, hl with | [_, _], _ => rfl
  have F_plan_node_drain := fun_mk (st := s_plan_node_drain) l_plan_node_drain c_plan_node_drain k_plan_node_drain
  have B_plan_node_drain := F_plan_node_drain.binds (ps := ["network", "node"]) fun _ _ _ _ _ _ us hl => match us, hl with | [_, _], _ => rfl
  have F_drain_link := fun_mk (st := s_drain_link) l_drain_link c_drain_link k_drain_link
  have B_drain_link := F_drain_link.binds (ps := ["network", "link"]) fun _ _ _ _ _ _ us hl => match us, hl with | [_, _], _ => rfl
  have F_tell_allowed_moves := fun_mk (st := s_tell_allowed_moves) l_tell_allowed_moves c_tell_allowed_moves k_tell_allowed_moves
  have B_tell_allowed_moves := F_tell_allowed_moves.binds (ps := ["network"]) fun _ _ _ _ _ _ us hl => match us, hl with | [_], _ => rfl
  have F_tell_reachable_count := fun_mk (st := s_tell_reachable_count) l_tell_reachable_count c_tell_reachable_count k_tell_reachable_count
  have B_tell_reachable_count := F_tell_reachable_count.binds (ps := ["network"]) fun _ _ _ _ _ _ us hl => match us, hl with | [_], _ => rfl
  have F_tell_component_count := fun_mk (st := s_tell_component_count) l_tell_component_count c_tell_component_count k_tell_component_count
  have B_tell_component_count := F_tell_component_count.binds (ps := ["network"]) fun _ _ _ _ _ _ us hl => match us, hl with | [_], _ => rfl
  have F_tell_stuck_flows := fun_mk (st := s_tell_stuck_flows) l_tell_stuck_flows c_tell_stuck_flows k_tell_stuck_flows
  have B_tell_stuck_flows := F_tell_stuck_flows.binds (ps := ["network", "link"]) fun _ _ _ _ _ _ us hl => match us, hl with | [_, _], _ => rfl
  have F_tell_flow_paths := fun_mk (st := s_tell_flow_paths) l_tell_flow_paths c_tell_flow_paths k_tell_flow_paths
  have B_tell_flow_paths := F_tell_flow_paths.binds (ps := ["network", "flow"]) fun _ _ _ _ _ _ us hl => match us, hl with | [_, _], _ => rfl
  have F_tell_totals := fun_mk (st := s_tell_totals) l_tell_totals c_tell_totals k_tell_totals
  have B_tell_totals := F_tell_totals.binds (ps := ["network"]) fun _ _ _ _ _ _ us hl => match us, hl with | [_], _ => rfl
  have F_read_calls := fun_mk (st := s_read_calls) l_read_calls c_read_calls k_read_calls
  have B_read_calls := F_read_calls.binds (ps := ["calls"]) fun _ _ _ _ _ _ us hl => match us, hl with | [_], _ => rfl
  have F_answer_change := fun_mk (st := s_answer_change) l_answer_change c_answer_change k_answer_change
  have B_answer_change := F_answer_change.binds (ps := ["network", "call"]) fun _ _ _ _ _ _ us hl => match us, hl with | [_, _], _ => rfl
  have F_answer_plan := fun_mk (st := s_answer_plan) l_answer_plan c_answer_plan k_answer_plan
  have B_answer_plan := F_answer_plan.binds (ps := ["network", "call"]) fun _ _ _ _ _ _ us hl => match us, hl with | [_, _], _ => rfl
  have F_answer_question := fun_mk (st := s_answer_question) l_answer_question c_answer_question k_answer_question
  have B_answer_question := F_answer_question.binds (ps := ["network", "call"]) fun _ _ _ _ _ _ us hl => match us, hl with | [_, _], _ => rfl
  have F_answer_call := fun_mk (st := s_answer_call) l_answer_call c_answer_call k_answer_call
  have B_answer_call := F_answer_call.binds (ps := ["instance", "call"]) fun _ _ _ _ _ _ us hl => match us, hl with | [_, _], _ => rfl
  have F_answers := fun_mk (st := s_answers) l_answers c_answers k_answers
  refine ⟨PySem.W.fnOf "answers" "answers" (defArgs s_answers) (defBody s_answers) (defScope s_answers) .none kV_answers dc_answers pm_answers an_answers cd_answers ct_answers, fun s us hu => match us, hu with | [_], _ => .of_eq rfl, fun base _ _ => ?_⟩
  have m_Link := ok_Link_init (P := P) (w := w) (base := base) T F_Link_init ⟨mk_Link, a_Link_init, i_Link_init, kc_Link⟩ (PySem.W.mg_of X G aC_Link) B_Link_init
  have m_Path := ok_Path_init (P := P) (w := w) (base := base) T F_Path_init ⟨mk_Path, a_Path_init, i_Path_init, kc_Path⟩ (PySem.W.mg_of X G aC_Path) B_Path_init
  have m_Flow := ok_Flow_init (P := P) (w := w) (base := base) T F_Flow_init ⟨mk_Flow, a_Flow_init, i_Flow_init, kc_Flow⟩ (PySem.W.mg_of X G aC_Flow) B_Flow_init
  have m_Network := ok_Network_init (P := P) (w := w) (base := base) T F_Network_init ⟨mk_Network, a_Network_init, i_Network_init, kc_Network⟩ (PySem.W.mg_of X G aC_Network) B_Network_init
  have m_Call := ok_Call_init (P := P) (w := w) (base := base) T F_Call_init ⟨mk_Call, a_Call_init, i_Call_init, kc_Call⟩ (PySem.W.mg_of X G aC_Call) B_Call_init
  have m_Instance := ok_Instance_init (P := P) (w := w) (base := base) T F_Instance_init ⟨mk_Instance, a_Instance_init, i_Instance_init, kc_Instance⟩ (PySem.W.mg_of X G aC_Instance) B_Instance_init
  have k_has_node := ok_has_node (P := P) (w := w) (base := base) T  F_has_node (PySem.W.mg_of X G a_has_node) B_has_node
  have k_has_link := ok_has_link (P := P) (w := w) (base := base) T  F_has_link (PySem.W.mg_of X G a_has_link) B_has_link
  have k_has_flow := ok_has_flow (P := P) (w := w) (base := base) T  F_has_flow (PySem.W.mg_of X G a_has_flow) B_has_flow
  have k_has_path := ok_has_path (P := P) (w := w) (base := base) T k_has_flow F_has_path (PySem.W.mg_of X G a_has_path) B_has_path
  have k_link_between := ok_link_between (P := P) (w := w) (base := base) T  F_link_between (PySem.W.mg_of X G a_link_between) B_link_between
  have k_links_along := ok_links_along (P := P) (w := w) (base := base) T k_link_between F_links_along (PySem.W.mg_of X G a_links_along) B_links_along
  have k_loads_under := ok_loads_under (P := P) (w := w) (base := base) T  F_loads_under (PySem.W.mg_of X G a_loads_under) B_loads_under
  have k_has_room := ok_has_room (P := P) (w := w) (base := base) T  F_has_room (PySem.W.mg_of X G a_has_room) B_has_room
  have k_links_entered := ok_links_entered (P := P) (w := w) (base := base) T  F_links_entered (PySem.W.mg_of X G a_links_entered) B_links_entered
  have k_is_path_of := ok_is_path_of (P := P) (w := w) (base := base) T k_links_along F_is_path_of (PySem.W.mg_of X G a_is_path_of) B_is_path_of
  have k_is_feasible := ok_is_feasible (P := P) (w := w) (base := base) T k_loads_under F_is_feasible (PySem.W.mg_of X G a_is_feasible) B_is_feasible
  have k_uses_link := ok_uses_link (P := P) (w := w) (base := base) T  F_uses_link (PySem.W.mg_of X G a_uses_link) B_uses_link
  have k_links_at := ok_links_at (P := P) (w := w) (base := base) T  F_links_at (PySem.W.mg_of X G a_links_at) B_links_at
  have k_paths_to_enter := ok_paths_to_enter (P := P) (w := w) (base := base) T k_has_room k_links_entered F_paths_to_enter (PySem.W.mg_of X G a_paths_to_enter) B_paths_to_enter
  have k_allowed_moves := ok_allowed_moves (P := P) (w := w) (base := base) T k_loads_under k_paths_to_enter F_allowed_moves (PySem.W.mg_of X G a_allowed_moves) B_allowed_moves
  have k_after_move := ok_after_move (P := P) (w := w) (base := base) T  F_after_move (PySem.W.mg_of X G a_after_move) B_after_move
  have k_current_assignment := ok_current_assignment (P := P) (w := w) (base := base) T  F_current_assignment (PySem.W.mg_of X G a_current_assignment) B_current_assignment
  have k_plans_from := ok_plans_from (P := P) (w := w) (base := base) T k_allowed_moves k_after_move F_plans_from (PySem.W.mg_of X G a_plans_from) B_plans_from
  have k_choices_of := ok_choices_of (P := P) (w := w) (base := base) T  F_choices_of (PySem.W.mg_of X G a_choices_of) B_choices_of
  have k_candidate_assignments := ok_candidate_assignments (P := P) (w := w) (base := base) T k_is_feasible k_choices_of F_candidate_assignments (PySem.W.mg_of X G a_candidate_assignments) B_candidate_assignments
  have k_count_components := ok_count_components (P := P) (w := w) (base := base) T k_plans_from F_count_components (PySem.W.mg_of X G a_count_components) B_count_components
  have k_is_drained := ok_is_drained (P := P) (w := w) (base := base) T k_uses_link F_is_drained (PySem.W.mg_of X G a_is_drained) B_is_drained
  have k_tell_moves := ok_tell_moves (P := P) (w := w) (base := base) T  F_tell_moves (PySem.W.mg_of X G a_tell_moves) B_tell_moves
  have k_tell_plan := ok_tell_plan (P := P) (w := w) (base := base) T k_tell_moves F_tell_plan (PySem.W.mg_of X G a_tell_plan) B_tell_plan
  have k_find_drain := ok_find_drain (P := P) (w := w) (base := base) T k_plans_from k_current_assignment k_is_drained F_find_drain (PySem.W.mg_of X G a_find_drain) B_find_drain
  have k_is_target_form := ok_is_target_form (P := P) (w := w) (base := base) T  F_is_target_form (PySem.W.mg_of X G a_is_target_form) B_is_target_form
  have k_add_link := ok_add_link (P := P) (w := w) (base := base) T k_has_node k_link_between m_Link F_add_link (PySem.W.mg_of X G a_add_link) B_add_link
  have k_add_flow := ok_add_flow (P := P) (w := w) (base := base) T k_has_node m_Flow F_add_flow (PySem.W.mg_of X G a_add_flow) B_add_flow
  have k_place_flow := ok_place_flow (P := P) (w := w) (base := base) T k_has_path k_loads_under k_has_room F_place_flow (PySem.W.mg_of X G a_place_flow) B_place_flow
  have k_stop_flow := ok_stop_flow (P := P) (w := w) (base := base) T k_has_flow F_stop_flow (PySem.W.mg_of X G a_stop_flow) B_stop_flow
  have k_move_flow := ok_move_flow (P := P) (w := w) (base := base) T k_has_path k_allowed_moves F_move_flow (PySem.W.mg_of X G a_move_flow) B_move_flow
  have k_set_capacity := ok_set_capacity (P := P) (w := w) (base := base) T k_has_link k_loads_under F_set_capacity (PySem.W.mg_of X G a_set_capacity) B_set_capacity
  have k_add_path := ok_add_path (P := P) (w := w) (base := base) T k_has_flow k_is_path_of k_links_along m_Path F_add_path (PySem.W.mg_of X G a_add_path) B_add_path
  have k_tell_assignment := ok_tell_assignment (P := P) (w := w) (base := base) T  F_tell_assignment (PySem.W.mg_of X G a_tell_assignment) B_tell_assignment
  have k_tell_link_loads := ok_tell_link_loads (P := P) (w := w) (base := base) T k_loads_under F_tell_link_loads (PySem.W.mg_of X G a_tell_link_loads) B_tell_link_loads
  have k_create_network := ok_create_network (P := P) (w := w) (base := base) T m_Network F_create_network (PySem.W.mg_of X G a_create_network) B_create_network
  have k_plan_to := ok_plan_to (P := P) (w := w) (base := base) T k_is_target_form k_is_feasible k_tell_plan k_plans_from k_current_assignment F_plan_to (PySem.W.mg_of X G a_plan_to) B_plan_to
  have k_plan_link_drain := ok_plan_link_drain (P := P) (w := w) (base := base) T k_has_link k_find_drain k_tell_plan F_plan_link_drain (PySem.W.mg_of X G a_plan_link_drain) B_plan_link_drain
  have k_plan_node_drain := ok_plan_node_drain (P := P) (w := w) (base := base) T k_has_node k_links_at k_find_drain k_tell_plan F_plan_node_drain (PySem.W.mg_of X G a_plan_node_drain) B_plan_node_drain
  have k_drain_link := ok_drain_link (P := P) (w := w) (base := base) T k_has_link k_find_drain k_tell_plan F_drain_link (PySem.W.mg_of X G a_drain_link) B_drain_link
  have k_tell_allowed_moves := ok_tell_allowed_moves (P := P) (w := w) (base := base) T k_allowed_moves k_tell_moves F_tell_allowed_moves (PySem.W.mg_of X G a_tell_allowed_moves) B_tell_allowed_moves
  have k_tell_reachable_count := ok_tell_reachable_count (P := P) (w := w) (base := base) T k_plans_from k_current_assignment k_candidate_assignments F_tell_reachable_count (PySem.W.mg_of X G a_tell_reachable_count) B_tell_reachable_count
  have k_tell_component_count := ok_tell_component_count (P := P) (w := w) (base := base) T k_candidate_assignments k_count_components F_tell_component_count (PySem.W.mg_of X G a_tell_component_count) B_tell_component_count
  have k_tell_stuck_flows := ok_tell_stuck_flows (P := P) (w := w) (base := base) T k_has_link k_plans_from k_current_assignment k_uses_link F_tell_stuck_flows (PySem.W.mg_of X G a_tell_stuck_flows) B_tell_stuck_flows
  have k_tell_flow_paths := ok_tell_flow_paths (P := P) (w := w) (base := base) T k_has_flow F_tell_flow_paths (PySem.W.mg_of X G a_tell_flow_paths) B_tell_flow_paths
  have k_tell_totals := ok_tell_totals (P := P) (w := w) (base := base) T  F_tell_totals (PySem.W.mg_of X G a_tell_totals) B_tell_totals
  have k_read_calls := ok_read_calls (P := P) (w := w) (base := base) T m_Call F_read_calls (PySem.W.mg_of X G a_read_calls) B_read_calls
  have k_answer_change := ok_answer_change (P := P) (w := w) (base := base) T k_add_link k_add_flow k_add_path k_place_flow k_stop_flow k_move_flow k_set_capacity F_answer_change (PySem.W.mg_of X G a_answer_change) B_answer_change
  have k_answer_plan := ok_answer_plan (P := P) (w := w) (base := base) T k_plan_to k_plan_link_drain k_plan_node_drain k_drain_link F_answer_plan (PySem.W.mg_of X G a_answer_plan) B_answer_plan
  have k_answer_question := ok_answer_question (P := P) (w := w) (base := base) T k_tell_link_loads k_tell_assignment k_tell_allowed_moves k_tell_reachable_count k_tell_component_count k_tell_stuck_flows k_tell_flow_paths k_tell_totals F_answer_question (PySem.W.mg_of X G a_answer_question) B_answer_question
  have k_answer_call := ok_answer_call (P := P) (w := w) (base := base) T k_create_network k_answer_change k_answer_plan k_answer_question F_answer_call (PySem.W.mg_of X G a_answer_call) B_answer_call
  exact ok_answers (P := P) (w := w) (base := base) T m_Instance k_read_calls k_answer_call F_answers
end Fm
open PySem PySem.W PyProof.Rows
set_option maxRecDepth 100000 in
set_option maxHeartbeats 8000000 in
theorem PySem.Challenge.cw_flowmoves_s01_answers_holds : PySem.Challenge.rw_flowmoves_s01_answers.Holds := by
  w_on; k_headS; (case hw => exact ⟨[.list [.int 8]], by decide +kernel, by decide +kernel⟩)
  k_fillS
  refine L2.walk_specK (r := PySem.Challenge.rw_flowmoves_s01_answers) (k := 9) (CX := L2.CX0) (ps := ["calls"]) (sp := Fm.sp_answers) (by decide +kernel) rfl rfl ⟨rfl, by decide, by decide⟩ (fun w h Y => PySem.W.kIn_of Y) ?F ?S (fun _ _ _ _ z => z)
  case F =>
    intro w mg fa h Y KX G hmg
    refine' Fm.all_mk KX G hmg ?aC_Link ?pg_Link ?hd_Link ?po_Link ?sa_Link ?mk_Link ?kc_Link ?n_Link_node_a ?n_Link_node_b ?n_Link_capacity ?a_Link_init ?i_Link_init ?l_Link_init ?c_Link_init ?k_Link_init ?aC_Path ?pg_Path ?hd_Path ?po_Path ?sa_Path ?mk_Path ?kc_Path ?n_Path_nodes ?n_Path_links ?a_Path_init ?i_Path_init ?l_Path_init ?c_Path_init ?k_Path_init ?aC_Flow ?pg_Flow ?hd_Flow ?po_Flow ?sa_Flow ?mk_Flow ?kc_Flow ?n_Flow_source ?n_Flow_destination ?n_Flow_demand ?n_Flow_paths ?a_Flow_init ?i_Flow_init ?l_Flow_init ?c_Flow_init ?k_Flow_init ?aC_Network ?pg_Network ?hd_Network ?po_Network ?sa_Network ?mk_Network ?kc_Network ?n_Network_node_count ?n_Network_links ?n_Network_flows ?n_Network_assignment ?a_Network_init ?i_Network_init ?l_Network_init ?c_Network_init ?k_Network_init ?aC_Call ?pg_Call ?hd_Call ?po_Call ?sa_Call ?mk_Call ?kc_Call ?n_Call_operation ?n_Call_numbers ?n_Call_row ?a_Call_init ?i_Call_init ?l_Call_init ?c_Call_init ?k_Call_init ?aC_Instance ?pg_Instance ?hd_Instance ?po_Instance ?sa_Instance ?mk_Instance ?kc_Instance ?n_Instance_network ?a_Instance_init ?i_Instance_init ?l_Instance_init ?c_Instance_init ?k_Instance_init ?a_has_node ?l_has_node ?c_has_node ?k_has_node ?a_has_link ?l_has_link ?c_has_link ?k_has_link ?a_has_flow ?l_has_flow ?c_has_flow ?k_has_flow ?a_has_path ?l_has_path ?c_has_path ?k_has_path ?a_link_between ?l_link_between ?c_link_between ?k_link_between ?a_links_along ?l_links_along ?c_links_along ?k_links_along ?a_loads_under ?l_loads_under ?c_loads_under ?k_loads_under ?a_has_room ?l_has_room ?c_has_room ?k_has_room ?a_links_entered ?l_links_entered ?c_links_entered ?k_links_entered ?a_is_path_of ?l_is_path_of ?c_is_path_of ?k_is_path_of ?a_is_feasible ?l_is_feasible ?c_is_feasible ?k_is_feasible ?a_uses_link ?l_uses_link ?c_uses_link ?k_uses_link ?a_links_at ?l_links_at ?c_links_at ?k_links_at ?a_paths_to_enter ?l_paths_to_enter ?c_paths_to_enter ?k_paths_to_enter ?a_allowed_moves ?l_allowed_moves ?c_allowed_moves ?k_allowed_moves ?a_after_move ?l_after_move ?c_after_move ?k_after_move ?a_current_assignment ?l_current_assignment ?c_current_assignment ?k_current_assignment ?a_plans_from ?l_plans_from ?c_plans_from ?k_plans_from ?a_choices_of ?l_choices_of ?c_choices_of ?k_choices_of ?a_candidate_assignments ?l_candidate_assignments ?c_candidate_assignments ?k_candidate_assignments ?a_count_components ?l_count_components ?c_count_components ?k_count_components ?a_is_drained ?l_is_drained ?c_is_drained ?k_is_drained ?a_tell_moves ?l_tell_moves ?c_tell_moves ?k_tell_moves ?a_tell_plan ?l_tell_plan ?c_tell_plan ?k_tell_plan ?a_find_drain ?l_find_drain ?c_find_drain ?k_find_drain ?a_is_target_form ?l_is_target_form ?c_is_target_form ?k_is_target_form ?a_add_link ?l_add_link ?c_add_link ?k_add_link ?a_add_flow ?l_add_flow ?c_add_flow ?k_add_flow ?a_place_flow ?l_place_flow ?c_place_flow ?k_place_flow ?a_stop_flow ?l_stop_flow ?c_stop_flow ?k_stop_flow ?a_move_flow ?l_move_flow ?c_move_flow ?k_move_flow ?a_set_capacity ?l_set_capacity ?c_set_capacity ?k_set_capacity ?a_add_path ?l_add_path ?c_add_path ?k_add_path ?a_tell_assignment ?l_tell_assignment ?c_tell_assignment ?k_tell_assignment ?a_tell_link_loads ?l_tell_link_loads ?c_tell_link_loads ?k_tell_link_loads ?a_create_network ?l_create_network ?c_create_network ?k_create_network ?a_plan_to ?l_plan_to ?c_plan_to ?k_plan_to ?a_plan_link_drain ?l_plan_link_drain ?c_plan_link_drain ?k_plan_link_drain ?a_plan_node_drain ?l_plan_node_drain ?c_plan_node_drain ?k_plan_node_drain ?a_drain_link ?l_drain_link ?c_drain_link ?k_drain_link ?a_tell_allowed_moves ?l_tell_allowed_moves ?c_tell_allowed_moves ?k_tell_allowed_moves ?a_tell_reachable_count ?l_tell_reachable_count ?c_tell_reachable_count ?k_tell_reachable_count ?a_tell_component_count ?l_tell_component_count ?c_tell_component_count ?k_tell_component_count ?a_tell_stuck_flows ?l_tell_stuck_flows ?c_tell_stuck_flows ?k_tell_stuck_flows ?a_tell_flow_paths ?l_tell_flow_paths ?c_tell_flow_paths ?k_tell_flow_paths ?a_tell_totals ?l_tell_totals ?c_tell_totals ?k_tell_totals ?a_read_calls ?l_read_calls ?c_read_calls ?k_read_calls ?a_answer_change ?l_answer_change ?c_answer_change ?k_answer_change ?a_answer_plan ?l_answer_plan ?c_answer_plan ?k_answer_plan ?a_answer_question ?l_answer_question ?c_answer_question ?k_answer_question ?a_answer_call ?l_answer_call ?c_answer_call ?k_answer_call ?a_answers ?l_answers ?c_answers ?k_answers ?g_MISSING ?g_INACTIVE ?g_NO_NETWORK ?g_TAKEN ?g_INVALID ?g_LIMIT_REACHED ?g_NO_ROOM ?g_NO_PLAN ?g_INFEASIBLE ?g_LEAST_NODES ?g_MOST_NODES ?g_MOST_LINKS ?g_MOST_CAPACITY ?g_MOST_FLOWS ?g_LEAST_DEMAND ?g_MOST_DEMAND ?g_MOST_PATHS ?g_CREATE_NETWORK ?g_ADD_LINK ?g_ADD_FLOW ?g_ADD_PATH ?g_PLACE_FLOW ?g_STOP_FLOW ?g_MOVE_FLOW ?g_SET_CAPACITY ?g_LINK_LOADS ?g_ASSIGNMENT ?g_ALLOWED_MOVES ?g_PLAN_TO ?g_PLAN_LINK_DRAIN ?g_PLAN_NODE_DRAIN ?g_DRAIN_LINK ?g_REACHABLE_COUNT ?g_COMPONENT_COUNT ?g_STUCK_FLOWS ?g_FLOW_PATHS ?g_NUMBER_COUNTS ?l_NUMBER_COUNTS ?b_len ?b_set ?b_zip ?b_enumerate ?b_any ?b_all ?b_tuple ?b_list ?b_range
    (case aC_Link => k_is); (case pg_Link => k_is); (case hd_Link => k_is); (case po_Link => k_is)
    (case sa_Link => k_is); (case mk_Link => k_is); (case kc_Link => k_is); (case n_Link_node_a => k_is)
    (case n_Link_node_b => k_is); (case n_Link_capacity => k_is); (case a_Link_init => k_is); (case i_Link_init => k_is)
    (case l_Link_init => k_is); (case c_Link_init => k_is); (case k_Link_init => k_is); (case aC_Path => k_is)
    (case pg_Path => k_is); (case hd_Path => k_is); (case po_Path => k_is); (case sa_Path => k_is)
    (case mk_Path => k_is); (case kc_Path => k_is); (case n_Path_nodes => k_is); (case n_Path_links => k_is)
    (case a_Path_init => k_is); (case i_Path_init => k_is); (case l_Path_init => k_is); (case c_Path_init => k_is)
    (case k_Path_init => k_is); (case aC_Flow => k_is); (case pg_Flow => k_is); (case hd_Flow => k_is)
    (case po_Flow => k_is); (case sa_Flow => k_is); (case mk_Flow => k_is); (case kc_Flow => k_is)
    (case n_Flow_source => k_is); (case n_Flow_destination => k_is); (case n_Flow_demand => k_is); (case n_Flow_paths => k_is)
    (case a_Flow_init => k_is); (case i_Flow_init => k_is); (case l_Flow_init => k_is); (case c_Flow_init => k_is)
    (case k_Flow_init => k_is); (case aC_Network => k_is); (case pg_Network => k_is); (case hd_Network => k_is)
    (case po_Network => k_is); (case sa_Network => k_is); (case mk_Network => k_is); (case kc_Network => k_is)
    (case n_Network_node_count => k_is); (case n_Network_links => k_is); (case n_Network_flows => k_is); (case n_Network_assignment => k_is)
    (case a_Network_init => k_is); (case i_Network_init => k_is); (case l_Network_init => k_is); (case c_Network_init => k_is)
    (case k_Network_init => k_is); (case aC_Call => k_is); (case pg_Call => k_is); (case hd_Call => k_is)
    (case po_Call => k_is); (case sa_Call => k_is); (case mk_Call => k_is); (case kc_Call => k_is)
    (case n_Call_operation => k_is); (case n_Call_numbers => k_is); (case n_Call_row => k_is); (case a_Call_init => k_is)
    (case i_Call_init => k_is); (case l_Call_init => k_is); (case c_Call_init => k_is); (case k_Call_init => k_is)
    (case aC_Instance => k_is); (case pg_Instance => k_is); (case hd_Instance => k_is); (case po_Instance => k_is)
    (case sa_Instance => k_is); (case mk_Instance => k_is); (case kc_Instance => k_is); (case n_Instance_network => k_is)
    (case a_Instance_init => k_is); (case i_Instance_init => k_is); (case l_Instance_init => k_is); (case c_Instance_init => k_is)
    (case k_Instance_init => k_is); (case a_has_node => k_is); (case l_has_node => k_is); (case c_has_node => k_is)
    (case k_has_node => k_is); (case a_has_link => k_is); (case l_has_link => k_is); (case c_has_link => k_is)
    (case k_has_link => k_is); (case a_has_flow => k_is); (case l_has_flow => k_is); (case c_has_flow => k_is)
    (case k_has_flow => k_is); (case a_has_path => k_is); (case l_has_path => k_is); (case c_has_path => k_is)
    (case k_has_path => k_is); (case a_link_between => k_is); (case l_link_between => k_is); (case c_link_between => k_is)
    (case k_link_between => k_is); (case a_links_along => k_is); (case l_links_along => k_is); (case c_links_along => k_is)
    (case k_links_along => k_is); (case a_loads_under => k_is); (case l_loads_under => k_is); (case c_loads_under => k_is)
    (case k_loads_under => k_is); (case a_has_room => k_is); (case l_has_room => k_is); (case c_has_room => k_is)
    (case k_has_room => k_is); (case a_links_entered => k_is); (case l_links_entered => k_is); (case c_links_entered => k_is)
    (case k_links_entered => k_is); (case a_is_path_of => k_is); (case l_is_path_of => k_is); (case c_is_path_of => k_is)
    (case k_is_path_of => k_is); (case a_is_feasible => k_is); (case l_is_feasible => k_is); (case c_is_feasible => k_is)
    (case k_is_feasible => k_is); (case a_uses_link => k_is); (case l_uses_link => k_is); (case c_uses_link => k_is)
    (case k_uses_link => k_is); (case a_links_at => k_is); (case l_links_at => k_is); (case c_links_at => k_is)
    (case k_links_at => k_is); (case a_paths_to_enter => k_is); (case l_paths_to_enter => k_is); (case c_paths_to_enter => k_is)
    (case k_paths_to_enter => k_is); (case a_allowed_moves => k_is); (case l_allowed_moves => k_is); (case c_allowed_moves => k_is)
    (case k_allowed_moves => k_is); (case a_after_move => k_is); (case l_after_move => k_is); (case c_after_move => k_is)
    (case k_after_move => k_is); (case a_current_assignment => k_is); (case l_current_assignment => k_is); (case c_current_assignment => k_is)
    (case k_current_assignment => k_is); (case a_plans_from => k_is); (case l_plans_from => k_is); (case c_plans_from => k_is)
    (case k_plans_from => k_is); (case a_choices_of => k_is); (case l_choices_of => k_is); (case c_choices_of => k_is)
    (case k_choices_of => k_is); (case a_candidate_assignments => k_is); (case l_candidate_assignments => k_is); (case c_candidate_assignments => k_is)
    (case k_candidate_assignments => k_is); (case a_count_components => k_is); (case l_count_components => k_is); (case c_count_components => k_is)
    (case k_count_components => k_is); (case a_is_drained => k_is); (case l_is_drained => k_is); (case c_is_drained => k_is)
    (case k_is_drained => k_is); (case a_tell_moves => k_is); (case l_tell_moves => k_is); (case c_tell_moves => k_is)
    (case k_tell_moves => k_is); (case a_tell_plan => k_is); (case l_tell_plan => k_is); (case c_tell_plan => k_is)
    (case k_tell_plan => k_is); (case a_find_drain => k_is); (case l_find_drain => k_is); (case c_find_drain => k_is)
    (case k_find_drain => k_is); (case a_is_target_form => k_is); (case l_is_target_form => k_is); (case c_is_target_form => k_is)
    (case k_is_target_form => k_is); (case a_add_link => k_is); (case l_add_link => k_is); (case c_add_link => k_is)
    (case k_add_link => k_is); (case a_add_flow => k_is); (case l_add_flow => k_is); (case c_add_flow => k_is)
    (case k_add_flow => k_is); (case a_place_flow => k_is); (case l_place_flow => k_is); (case c_place_flow => k_is)
    (case k_place_flow => k_is); (case a_stop_flow => k_is); (case l_stop_flow => k_is); (case c_stop_flow => k_is)
    (case k_stop_flow => k_is); (case a_move_flow => k_is); (case l_move_flow => k_is); (case c_move_flow => k_is)
    (case k_move_flow => k_is); (case a_set_capacity => k_is); (case l_set_capacity => k_is); (case c_set_capacity => k_is)
    (case k_set_capacity => k_is); (case a_add_path => k_is); (case l_add_path => k_is); (case c_add_path => k_is)
    (case k_add_path => k_is); (case a_tell_assignment => k_is); (case l_tell_assignment => k_is); (case c_tell_assignment => k_is)
    (case k_tell_assignment => k_is); (case a_tell_link_loads => k_is); (case l_tell_link_loads => k_is); (case c_tell_link_loads => k_is)
    (case k_tell_link_loads => k_is); (case a_create_network => k_is); (case l_create_network => k_is); (case c_create_network => k_is)
    (case k_create_network => k_is); (case a_plan_to => k_is); (case l_plan_to => k_is); (case c_plan_to => k_is)
    (case k_plan_to => k_is); (case a_plan_link_drain => k_is); (case l_plan_link_drain => k_is); (case c_plan_link_drain => k_is)
    (case k_plan_link_drain => k_is); (case a_plan_node_drain => k_is); (case l_plan_node_drain => k_is); (case c_plan_node_drain => k_is)
    (case k_plan_node_drain => k_is); (case a_drain_link => k_is); (case l_drain_link => k_is); (case c_drain_link => k_is)
    (case k_drain_link => k_is); (case a_tell_allowed_moves => k_is); (case l_tell_allowed_moves => k_is); (case c_tell_allowed_moves => k_is)
    (case k_tell_allowed_moves => k_is); (case a_tell_reachable_count => k_is); (case l_tell_reachable_count => k_is); (case c_tell_reachable_count => k_is)
    (case k_tell_reachable_count => k_is); (case a_tell_component_count => k_is); (case l_tell_component_count => k_is); (case c_tell_component_count => k_is)
    (case k_tell_component_count => k_is); (case a_tell_stuck_flows => k_is); (case l_tell_stuck_flows => k_is); (case c_tell_stuck_flows => k_is)
    (case k_tell_stuck_flows => k_is); (case a_tell_flow_paths => k_is); (case l_tell_flow_paths => k_is); (case c_tell_flow_paths => k_is)
    (case k_tell_flow_paths => k_is); (case a_tell_totals => k_is); (case l_tell_totals => k_is); (case c_tell_totals => k_is)
    (case k_tell_totals => k_is); (case a_read_calls => k_is); (case l_read_calls => k_is); (case c_read_calls => k_is)
    (case k_read_calls => k_is); (case a_answer_change => k_is); (case l_answer_change => k_is); (case c_answer_change => k_is)
    (case k_answer_change => k_is); (case a_answer_plan => k_is); (case l_answer_plan => k_is); (case c_answer_plan => k_is)
    (case k_answer_plan => k_is); (case a_answer_question => k_is); (case l_answer_question => k_is); (case c_answer_question => k_is)
    (case k_answer_question => k_is); (case a_answer_call => k_is); (case l_answer_call => k_is); (case c_answer_call => k_is)
    (case k_answer_call => k_is); (case a_answers => k_is); (case l_answers => k_is); (case c_answers => k_is)
    (case k_answers => k_is); (case g_MISSING => k_is); (case g_INACTIVE => k_is); (case g_NO_NETWORK => k_is)
    (case g_TAKEN => k_is); (case g_INVALID => k_is); (case g_LIMIT_REACHED => k_is); (case g_NO_ROOM => k_is)
    (case g_NO_PLAN => k_is); (case g_INFEASIBLE => k_is); (case g_LEAST_NODES => k_is); (case g_MOST_NODES => k_is)
    (case g_MOST_LINKS => k_is); (case g_MOST_CAPACITY => k_is); (case g_MOST_FLOWS => k_is); (case g_LEAST_DEMAND => k_is)
    (case g_MOST_DEMAND => k_is); (case g_MOST_PATHS => k_is); (case g_CREATE_NETWORK => k_is); (case g_ADD_LINK => k_is)
    (case g_ADD_FLOW => k_is); (case g_ADD_PATH => k_is); (case g_PLACE_FLOW => k_is); (case g_STOP_FLOW => k_is)
    (case g_MOVE_FLOW => k_is); (case g_SET_CAPACITY => k_is); (case g_LINK_LOADS => k_is); (case g_ASSIGNMENT => k_is)
    (case g_ALLOWED_MOVES => k_is); (case g_PLAN_TO => k_is); (case g_PLAN_LINK_DRAIN => k_is); (case g_PLAN_NODE_DRAIN => k_is)
    (case g_DRAIN_LINK => k_is); (case g_REACHABLE_COUNT => k_is); (case g_COMPONENT_COUNT => k_is); (case g_STUCK_FLOWS => k_is)
    (case g_FLOW_PATHS => k_is); (case g_NUMBER_COUNTS => k_is); (case l_NUMBER_COUNTS => k_is); (case b_len => k_is)
    (case b_set => k_is); (case b_zip => k_is); (case b_enumerate => k_is); (case b_any => k_is)
    (case b_all => k_is); (case b_tuple => k_is); (case b_list => k_is); (case b_range => k_is)
  case S =>
    intro K H xs a hO hwi hask hx
    cases hx with
    | cons h1 h2 =>
      cases h2
      cases h1 with
      | lst hs ha =>
        have e := L2.ints_dw a.1 _ ha
        subst e
        have q : ((Codec.inLen 0 4400 a.1 && a.1.all (Codec.inInt 0 4294967295)) && true) = true := hwi
        rw [Bool.and_eq_true, Bool.and_eq_true] at q
        have hlen := (Codec.inNat_iff.mp q.1.1).2
        have hpos : ∀ x ∈ a.1, 0 ≤ x := fun x hx => (Codec.inInt_iff.mp (List.all_eq_true.mp q.1.2 x hx)).1
        obtain ⟨l, hl⟩ : ∃ l : List Nat, a.1 = FmS.zints l := ⟨a.1.map Int.toNat, Fm.back_ints hpos⟩
        have hask : PySu203.answers_asked a.1 = true := hask
        rw [hl] at hask hs hlen
        obtain ⟨pcs, ok, el, due, hmax, h400, hrow⟩ := FmS.asked_of hask
        rw [List.length_map] at hlen
        have hs : L2.SqL K H _ (Fm.nats l) := Fm.sq_ints hs
        rw [el] at hs hlen
        refine ⟨_, pcs, rfl, hs, hlen, ok, hrow, hmax, fun H' p hp => ?_⟩
        show L2.Dw K H' (.ref p) ((PySem.Challenge.rw_flowmoves_s01_answers.ret).enc (PySu203.answers a.1))
        rw [hl, due]
        exact .lst (L2.SqL.of hp) (L2.dw_ints _)
