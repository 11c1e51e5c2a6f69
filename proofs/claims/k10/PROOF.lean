import PyProof.Rows.All
import Wide.All
import OpenK.AllK
import Wide.FinOn
import HandS.ForMost
import HandS.Deep
import HandS.TupAny
import HandS.Zip
import HandS.More
import HandS.IsInst
import HandS.Sort
import KE.DataFind
import KE.GoesEnum
import HandS.Walk
import HandS.Codes
import HandS.HotCalls
import HandS.ExcIs
import HandS.Star
import PySem.Challenge.RW_sidinglane_k10_whole_a_yard
import KE.KeyNested
import KE.KDictKeyed
import KE.KDictPairs
import KE.KDictWalk
import HandS.Iter
import HandS.Conv
import HandS.TupLen
import KE.KDictCopyH
import KE.SortData
import KE.KDictSum
import HandS.DictComp
import HandS.ListItems
import HandS.TupMul
import HandS.Style
import KE.KDictItemsList
import HandS.Steps
import KE.KEqDict
set_option Elab.async false
set_option linter.all false
set_option maxRecDepth 100000
set_option maxHeartbeats 4000000
/-! Rules of my own beside the layer's: how often data stand in a tuple or a list, whether they stand in a tuple, a walk over a list and a tuple side by side, tuples whose object is known. -/
namespace Sl
open PySem PySem.Spec PyProof.Rows L2
section
variable {X : Cx}
/-- what a count over data asks; c tells the container's kind -/
def rCount (c : List PyData → PyData) (K : PySem.W.Frag) : V → List V → Hp → VK → Prop := fun x xs H Q => ∃ (y : V) (d : PyData) (ds : List PyData), xs = [y] ∧ Dp K H x (c ds) ∧ Dp K H y d ∧
  SeqAt.shaped (c ds) = true ∧ SeqAt.shaped d = true ∧ Q (.int ((ds.countP fun z => PyData.eqv z d : Nat) : Int)) H
abbrev rCountL := rCount .list
abbrev rCountT := rCount .tuple
theorem plain_each {ds : List PyData} (h : PyData.canLayAll0 ds = true) : PyData.plainAll ds = true := PyData.plain_of_canLay0 (.list ds) h
theorem mt_countL (hu : X.A.units + 65 < cLine) : MtR X "list.count" (rCountL X.K) := fun pins s σ H x xs v us Q J rx rs ⟨y, d, ds, e, hl, hy, sl, sd, q⟩ => by
  subst e
  obtain ⟨u, eu, ry⟩ := Vals.one rs
  subst eu
  obtain ⟨_, ra⟩ := Dp.reads J d y u hy ry
  have lay : PyData.canLayAll0 ds = true := SeqAt.canLay_of_shaped (d := .list ds) sl
  cases hl with
  | lst at_ all_ =>
    cases rx
    obtain ⟨vals, rels, there, _⟩ := J.list at_
    obtain ⟨adrs, reads⟩ := Dp.readsAll J ds _ vals all_ rels
    exact SeqAt.count_list_data (vs := vals.toArray) there.isList reads ra (plain_each lay) (PyData.plain_of_canLay0 d (SeqAt.canLay_of_shaped sd)) (room_in_shaped sd hu) ⟨.int _, H, J.tok _, ⟨_, rfl⟩, q⟩
theorem mt_countT (hu : X.A.units + 65 < cLine) : MtR X "tuple.count" (rCountT X.K) := fun pins s σ H x xs v us Q J rx rs ⟨y, d, ds, e, hl, hy, sl, sd, q⟩ => by
  subst e
  obtain ⟨u, eu, ry⟩ := Vals.one rs
  subst eu
  obtain ⟨_, ra⟩ := Dp.reads J d y u hy ry
  have lay : PyData.canLayAll0 ds = true := SeqAt.canLay_of_shaped (d := .tuple ds) sl
  cases hl with
  | tup at_ all_ =>
    cases rx
    obtain ⟨vals, rels, there, _⟩ := J.tuple at_
    obtain ⟨adrs, reads⟩ := Dp.readsAll J ds _ vals all_ rels
    exact SeqAt.count_tuple_data (vs := vals.toArray) there reads ra (plain_each lay) (PyData.plain_of_canLay0 d (SeqAt.canLay_of_shaped sd)) (room_in_shaped sd hu) ⟨.int _, H, J.tok _, ⟨_, rfl⟩, q⟩
/-- x in t, x not in t: a tuple of data -/
def rInT (K : PySem.W.Frag) : R2 := fun x y H Q => ∃ d ds, (Dp K H x d ∧ Dp K H y (.tuple ds)) ∧ (SeqAt.shaped d = true ∧ SeqAt.shaped (.tuple ds) = true) ∧ Q (.bl (ds.any fun z => PyData.eqv z d)) H
def rNotInT (K : PySem.W.Frag) : R2 := fun x y H Q => ∃ d ds, (Dp K H x d ∧ Dp K H y (.tuple ds)) ∧ (SeqAt.shaped d = true ∧ SeqAt.shaped (.tuple ds) = true) ∧ Q (.bl (!ds.any fun z => PyData.eqv z d)) H
theorem op_inT (hu : X.A.units + 65 < cLine) : OpR X (compareOp .In) (rInT X.K) := fun pins s σ H x y v u Q J rx ry ⟨d, ds, ⟨dx, dy⟩, ⟨sx, sy⟩, q⟩ => by
  obtain ⟨_, r1⟩ := Dp.reads J d x v dx rx
  obtain ⟨_, r2⟩ := Dp.reads J (.tuple ds) y u dy ry
  exact SeqAt.in_tuple_reads r2 r1 (SeqAt.canLay_of_shaped (d := .tuple ds) sy) (SeqAt.canLay_of_shaped sx) (room_in_shaped sx hu) ⟨.bl _, H, J, rfl, q⟩
theorem op_notInT (hu : X.A.units + 65 < cLine) : OpR X (compareOp .NotIn) (rNotInT X.K) := fun pins s σ H x y v u Q J rx ry ⟨d, ds, ⟨dx, dy⟩, ⟨sx, sy⟩, q⟩ => by
  obtain ⟨_, r1⟩ := Dp.reads J d x v dx rx
  obtain ⟨_, r2⟩ := Dp.reads J (.tuple ds) y u dy ry
  exact SeqAt.notIn_tuple_reads r2 r1 (SeqAt.canLay_of_shaped (d := .tuple ds) sy) (SeqAt.canLay_of_shaped sx) (room_in_shaped sx hu) ⟨.bl _, H, J, rfl, q⟩
end
/-! ### a list and a tuple, side by side -/
/-- a turn gives a new pair; both stand still -/
def ItzM (K : PySem.W.Frag) (a b : Addr) : It where
  go := fun i H => ∃ (xs ys : List V) (x y : V), (SqL K H a xs ∧ xs[i]? = some x) ∧ (SqT K H b ys ∧ ys[i]? = some y)
  yld := fun i H v H' => ∃ T x y, v = .ref T ∧ H T = none ∧ H' = upd H T (.tup [x, y]) ∧ (∀ xs, SqL K H a xs → xs[i]? = some x) ∧ ∀ ys, SqT K H b ys → ys[i]? = some y
  stop := fun i H => ∃ xs ys : List V, (SqL K H a xs ∧ i ≤ xs.length) ∧ (SqT K H b ys ∧ i ≤ ys.length) ∧ (xs.length = i ∨ ys.length = i)
/-- where the zip stands behind i turns -/
def StM (z TI TO i1 i2 a b : Addr) (i : Nat) (h : Heap) : Prop := (IsZip h z TI TO .none ∧ IsPair h TI (.ref i1) (.ref i2) ∧ ∃ x y, IsPair h TO x y) ∧ h.IsListIter i1 a i ∧ h.IsTupleIter i2 b i
section
variable {z TI TO i1 i2 a b : Addr} {h : Heap} {i : Nat}
/-- its five objects -/
theorem StM.each {R : Addr → Prop} (p1 : R z) (p2 : R TI) (p3 : R TO) (p4 : R i1) (p5 : R i2) : ∀ c ∈ [z, TI, TO, i1, i2], R c := by
  simp only [List.forall_mem_cons]
  exact ⟨p1, p2, p3, p4, p5, fun _ q => nomatch q⟩
theorem StM.sizes (st : StM z TI TO i1 i2 a b i h) : ∀ c ∈ [z, TI, TO, i1, i2], c < h.objs.size := by
  obtain ⟨⟨hz, hI, _, _, hO⟩, ⟨_, w1, _⟩, ⟨_, w2, _⟩⟩ := st
  exact StM.each (Heap.lt_size hz) (Heap.lt_size hI) (Heap.lt_size hO) (Heap.lt_size w1) (Heap.lt_size w2)
/-- an iterator is no list, no tuple -/
theorem StM.notL (st : StM z TI TO i1 i2 a b i h) {xs : Array Value} (l : h.IsList a xs) : a ≠ i1 := fun e => by
  obtain ⟨_, w, c, _⟩ := st.2.1
  obtain ⟨_, w', c', _⟩ := l
  rw [← e, w'] at w
  cases w
  rw [c'] at c
  exact absurd c (by decide)
theorem StM.notT (st : StM z TI TO i1 i2 a b i h) {ys : Array Value} (l : h.IsTuple b ys) : b ≠ i2 := fun e => by
  obtain ⟨_, w, c, _⟩ := st.2.2
  obtain ⟨_, w', c', _⟩ := l
  rw [← e, w'] at w
  cases w
  rw [c'] at c
  exact absurd c (by decide)
/-- what stands elsewhere is not touched by a turn -/
theorem StM.off {h' : Heap} (kp : ∀ c o, c ≠ z → c ≠ TO → c ≠ i1 → c ≠ i2 → h.get? c = some o → h'.get? c = some o) {c : Addr} (hc : c ∉ [z, TI, TO, i1, i2]) {o : Obj} (g : h.get? c = some o) : h'.get? c = some o :=
  kp c o (fun e => hc (by simp [e])) (fun e => hc (by simp [e])) (fun e => hc (by simp [e])) (fun e => hc (by simp [e])) g
end
theorem turn_zipM {P : Program} {w : World} {K : PySem.W.Frag} {elts : List Expr} {kk : Nat} {tpos : Pos} {a b z TI TO i1 i2 : Addr} (S : ZipSep2 z TI TO i1 i2 [i1, a] [i2, b]) :
    Turn P w K (.Tuple elts kk tpos) (ItzM K a b) [z, TI, TO, i1, i2] z (StM z TI TO i1 i2 a b) where
  mem := List.mem_cons_self ..
  obj := fun i h ⟨⟨hz, hI, _, _, hO⟩, ⟨_, w1, _, d1⟩, ⟨_, w2, _, d2⟩⟩ => StM.each ⟨_, hz, fun _ => nofun⟩ ⟨_, hI, fun _ => nofun⟩ ⟨_, hO, fun _ => nofun⟩ ⟨_, w1, fun _ e => nomatch d1.symm.trans e⟩ ⟨_, w2, fun _ e => nomatch d2.symm.trans e⟩
  keep := fun i h h' ⟨⟨hz, hI, x, y, hO⟩, w1, w2⟩ kp => ⟨⟨kp _ (by simp) _ hz, kp _ (by simp) _ hI, x, y, kp _ (by simp) _ hO⟩, w1.at fun o => kp i1 (by simp) o, w2.at fun o => kp i2 (by simp) o⟩
  item := by
    rintro Y rfl rfl rfl calm i pn s σ H E J fr st ⟨xs, ys, x, y, ⟨sx, gx⟩, ⟨sy, gy⟩⟩
    obtain ⟨vs, rvs, pl, _⟩ := J.list sx
    obtain ⟨ws, rws, pt, _⟩ := J.tuple sy
    obtain ⟨u, hu, ru⟩ := rvs.get gx
    obtain ⟨t, ht, rt⟩ := rws.get gy
    have bu : i < vs.length := (List.getElem?_eq_some_iff.mp hu).1
    have bt : i < ws.length := (List.getElem?_eq_some_iff.mp ht).1
    have hh : Y.A.in1.handled = none := J.ok.hd calm
    have lt := st.sizes
    have zlt : z < s.heap.objs.size := lt z (by simp)
    obtain ⟨⟨hz, hI, x0, y0, hO⟩, w1, w2⟩ := id st
    refine wpAny_pyNext_zipD2_item S (Draws.list hh i1 a (st.notL pl.isList) vs.toArray) (Draws.tuple hh i2 b (st.notT (ys := ws.toArray) pt) ws.toArray) hz hI hO ⟨w1, pl.isList⟩ ⟨w2, pt⟩ (by simpa using bu) (by simpa using bt)
      fun v1 v2 h1 tk g1 g2 z1 O1 ⟨n1, _⟩ ⟨n2, _⟩ T1 _ kp => ?_
    obtain rfl : u = v1 := Option.some.inj (hu.symm.trans (by simpa using g1))
    obtain rfl : t = v2 := Option.some.inj (ht.symm.trans (by simpa using g2))
    refine ⟨_, rfl, wpAny_letOwnedTupleGo_zip (s := { s with heap := h1, toks := tk }) z1 fun h2 z2 but => ?_⟩
    have T2 := (but.2 _ (Nat.ne_of_gt zlt)).trans T1
    have I2 := J.turnedNew (t' := tk) (ch := [z, TI, TO, i1, i2]) (h' := h2) (T := s.heap.objs.size) (ob := .tup [x, y]) (fun c o hc g => (but.2 c fun e => hc (by simp [e])).trans (StM.off kp hc g)) fr (Nat.le_refl _)
      ⟨(by decide : 2 ≤ sizeLine), [u, t], .cons ru (.cons rt .nil), _, T2, rfl, _, rfl⟩
    refine ⟨.ref s.heap.objs.size, _, I2, rfl, ⟨_, x, y, rfl, J.hok.fresh (Nat.le_refl _), rfl, fun l q => (J.list_inj q sx) ▸ gx, fun l q => (J.tuple_inj q sy) ▸ gy⟩, ⟨⟨z2, (but.2 _ S.TIz).trans (kp _ _ S.TIz S.TITO S.TIi1 S.TIi2 hI), u, t, (but.2 _ S.TOz).trans O1⟩,
      n1.at fun o g => (but.2 _ S.zi1.symm).trans g, n2.at fun o g => (but.2 _ S.zi2.symm).trans g⟩, fun c hc => ?_⟩
    exact (upd_ne (Nat.ne_of_lt (lt c hc))).trans (fr c hc).1
  done := by
    rintro Y rfl rfl rfl calm i pn s σ H E J fr st ⟨xs, ys, ⟨sx, bx⟩, ⟨sy, by_⟩, fin⟩
    obtain ⟨vs, rvs, pl, _⟩ := J.list sx
    obtain ⟨ws, rws, pt, _⟩ := J.tuple sy
    have lv := rvs.length
    have lw := rws.length
    have hh : Y.A.in1.handled = none := J.ok.hd calm
    obtain ⟨⟨hz, hI, x0, y0, hO⟩, w1, w2⟩ := id st
    exact wpAny_pyNext_zipD2_end S (Draws.list hh i1 a (st.notL pl.isList) vs.toArray) (Draws.tuple hh i2 b (st.notT (ys := ws.toArray) pt) ws.toArray) hz hI hO (i := i) ⟨w1, pl.isList⟩ ⟨w2, pt⟩ (by simp; omega) (by simp; omega) (by simp; omega)
      fun h1 tk kp => ⟨rfl, J.turnedL (t' := tk) (ch := [z, TI, TO, i1, i2]) (fun c o hc g => StM.off kp hc g) fr⟩
  self := fun A i s Q E ⟨⟨hz, _⟩, _⟩ => wpAny_pyIter_zip hz
def iZipM (K : PySem.W.Frag) (ta : TA) : TI := fun σ H R => ta σ H fun vs H1 => ∃ a b xs ys, vs = [.ref a, .ref b] ∧ SqL K H1 a xs ∧ SqT K H1 b ys ∧ R (ItzM K a b) H1
theorem pi_zipM {X : Cx} {e e2 : Expr} {ta : TA} {p pos tpos : Pos} {elts : List Expr} {kk : Nat} (hg : Gl X "zip") (hm : X.mg "zip" = none) (ha : PA X [e, e2] ta) (st : starEach [e, e2] X.env = (false, eval e X.env) :: starEach [e2] X.env := by rfl)
    (pl : (backTo pos (starEach [e2] X.env)).any (·.1) = false := by rfl) : PI X (.Tuple elts kk tpos) (.Call (.Name "zip" p) [e, e2] [] pos) (iZipM X.K ta) := ⟨fun pins s σ H R I wish => by
  refine Call_ (ld_blt I hg hm PyProof.Rows.boot_zip (PyProof.Rows.callWith_type1 (thn (ha.run pos pins s σ H _ I wish) fun us t ⟨vs, G, J, rs, a, b, xs, ys, ev, sx, sy, q⟩ => ?_) st pl))
  subst ev
  obtain ⟨u1, u2, eu, r1, r2⟩ := Vals.two rs
  subst eu
  cases r1
  cases r2
  obtain ⟨ks, _, pl1, _⟩ := J.list sx
  obtain ⟨ls, _, pl2, _⟩ := J.tuple sy
  have na := pl1.lt
  have nb : b < t.heap.objs.size := by
    obtain ⟨_, w, _⟩ := id pl2
    exact Heap.lt_size w
  generalize hn : t.heap.objs.size = n at na nb
  refine zip_begins2 (begins_list a ks.toArray) (begins_tuple b ls.toArray) pl1.isList pl2 fun h1 hz hI hO w1 w2 _ kp => wpAny_pyIter_zip hz ?_
  rw [hn] at hz hI hO w1 w2
  have free : ∀ c, n ≤ c → FpOk X pins G c := fun c hc => J.fpOk (hn ▸ hc) (J.hok.fresh (hn ▸ hc))
  exact ⟨n + 4, [n + 4, n + 2, n + 3, n, n + 1], _, _, G, by rw [hn], J.kept (t' := t.toks) kp, turn_zipM (zip_sep2 (fp1 := [a]) (fp2 := [b]) (fun c hc => (List.mem_singleton.mp hc) ▸ na) fun c hc => (List.mem_singleton.mp hc) ▸ nb),
    ⟨⟨hz, hI, _, _, hO⟩, ⟨_, w1, rfl, rfl⟩, ⟨_, w2, rfl, rfl⟩⟩, StM.each (free _ (Nat.le_add_right ..)) (free _ (Nat.le_add_right ..)) (free _ (Nat.le_add_right ..)) (free _ (Nat.le_refl _)) (free _ (Nat.le_add_right ..)), q⟩⟩
/-! ### tuples whose object is known: no dict of their own, so their methods are the type's -/
section
variable {X : Cx}
/-- a new tuple of xs -/
def nT (H : Hp) (xs : List V) (Q : VK) : Prop := ∀ (p : Addr) (o : Obj), H p = none → o.dict = none → Q (.ref p) (upd H p (.frz o (.tup xs)))
abbrev tupObj (vs : List Value) : Obj := { cls := .type "tuple", data := .seq vs.toArray }
/-- such a tuple, pushed behind g, is a new one to whoever asks -/
theorem nT_give {pins : List (Addr × Obj)} {σ : L2.St} {H : Hp} {s : Shared} {g : Heap} {tk : Tok} {vs : List Value} {xs : List V} {Q : VK} (J : Inv X pins σ H { s with heap := g, toks := tk }) (r : Vals xs vs) (z : xs.length ≤ sizeLine) (q : nT H xs Q) :
    EP X pins σ Q (.ref g.objs.size) { s with heap := g.push (tupObj vs), toks := tk } := by
  have at_ := Heap.get?_push_size g (o := tupObj vs) rfl
  have new := J.hok.fresh (a := g.objs.size) (Nat.le_refl _)
  refine ⟨.ref g.objs.size, _, J.laid (t' := tk) (h' := g.push (tupObj vs)) (a := g.objs.size) (o := .frz (tupObj vs) (.tup xs)) (fun _ _ e => Heap.get?_push_of_some _ e) (Nat.le_refl _) ?_, rfl, q _ _ new rfl⟩
  exact ⟨at_, z, vs, r, _, at_, rfl, _, rfl⟩
def tTupF (t : TA) : TE := fun σ H Q => t σ H fun xs H1 => xs.length ≤ sizeLine ∧ nT H1 xs Q
theorem pe_tupF {es : List Expr} {t : TA} {x1 : Nat} {pos : Pos} (h : PA X es t) : PE X (.Tuple es x1 pos) (tTupF t) :=
  ⟨fun pins s σ H Q J wish => wpAny_Tuple_spliced (thn (h.run pos pins s σ H _ J wish) fun vs t ⟨xs, G, JG, r, z, q⟩ => ⟨r.length ▸ z, nT_give (s := t) (g := t.heap) (tk := t.toks) JG r z q⟩)⟩
def rTupOfF (K : PySem.W.Frag) : List V → Hp → VK → Prop := fun xs H Q => ∃ p ys, xs = [.ref p] ∧ SqL K H p ys ∧ nT H ys Q
theorem call_tuple_ofF : CallR X (.type "tuple") (rTupOfF X.K) := fun pins s σ H _ us Q J rs ⟨p, ys, e, at_, q⟩ => by
  subst e
  obtain ⟨u, eu, ru⟩ := Vals.one rs
  subst eu
  cases ru
  obtain ⟨vs, r, pl, z⟩ := J.list at_
  have n := r.length
  exact call_tuple_list pl.isList (fun g kp => nT_give (s := s) (g := g) (tk := s.toks) (J.kept (t' := s.toks) kp) r z q) (by rw [List.size_toArray, ← n]; exact z)
def rCatF (K : PySem.W.Frag) : R2 := fun x y H Q => ∃ a b xs ys, (x = .ref a ∧ y = .ref b) ∧ (SqT K H a xs ∧ SqT K H b ys) ∧ xs.length + ys.length ≤ sizeLine ∧
  (xs = [] → Q (.ref b) H) ∧ (xs ≠ [] → ys = [] → Q (.ref a) H) ∧ (xs ≠ [] → ys ≠ [] → nT H (xs ++ ys) Q)
theorem op_catF : OpR X (binaryOp .Add) (rCatF X.K) := fun pins s σ H _ _ v u Q J rx ry ⟨a, b, xs, ys, ⟨ea, eb⟩, ⟨ta, tb⟩, z, left, right, both⟩ => by
  subst ea eb
  cases rx
  cases ry
  obtain ⟨vs, r1, p1, _⟩ := J.tuple ta
  obtain ⟨ws, r2, p2, _⟩ := J.tuple tb
  have n1 := r1.length
  have n2 := r2.length
  cases xs with
  | nil =>
    cases r1
    exact cat_tup0 p1 p2 ⟨.ref b, H, J, rfl, left rfl⟩
  | cons x xs =>
    have ne : x :: xs ≠ [] := List.cons_ne_nil _ _
    exact HT.cat_tup p1 p2 (fun e => ne (r1.nil_iff.mp e)) (fun e => ⟨.ref a, H, J, rfl, right ne (r2.nil_iff.mp e)⟩)
      (fun e => nT_give (s := s) (g := s.heap) (tk := s.toks) J (r1.append r2) (by rw [List.length_append]; exact z) (both ne fun e2 => e (r2.nil_iff.mpr e2))) (by omega)
def rSlF (K : PySem.W.Frag) : V → Option Int → Option Int → Hp → VK → Prop := fun x lo hi H Q => ∃ a xs, (x = .ref a ∧ SqT K H a xs) ∧
  (HT.sIx xs.length 0 lo = 0 ∧ HT.sIx xs.length xs.length hi = xs.length → Q (.ref a) H) ∧ (¬ (HT.sIx xs.length 0 lo = 0 ∧ HT.sIx xs.length xs.length hi = xs.length) → nT H (cutV xs lo hi) Q)
theorem sl_tupF : SlR X (rSlF X.K) := fun pins s σ H _ v vl vu lo hi sl Q J rx is pl pu ⟨a, xs, ⟨ea, ta⟩, whole, part⟩ => by
  subst ea
  cases rx
  obtain ⟨vs, r, tv, z⟩ := J.tuple ta
  have n : vs.toArray.size = xs.length := List.size_toArray.trans r.length.symm
  refine ⟨"tuple", _, PyProof.Rows.slot_tuple_getitem.lookup, tv.typeIs, ?_⟩
  rcases Classical.em (HT.sIx xs.length 0 lo = 0 ∧ HT.sIx xs.length xs.length hi = xs.length) with all | some_
  · exact getItem_tuple_whole tv is pl pu (n ▸ all) ⟨.ref a, H, J, rfl, whole all⟩
  · refine HT.getItem_tuple_cut tv is pl pu (n ▸ some_) ?_ (n ▸ z)
    rw [n]
    exact nT_give (s := s) (g := s.heap) (tk := s.toks) J ((r.drop _).take _) (Nat.le_trans (cutV_length xs lo hi) z) (part some_)
/-- t.m(e, ..) of such a tuple -/
def tTM (r : V → List V → Hp → VK → Prop) (to : TE) (t : TA) : TE := fun σ H Q => to σ H fun x H1 => (∃ a o xs, x = .ref a ∧ H1 a = some (.frz o (.tup xs)) ∧ o.dict = none) ∧ t σ H1 fun vs H2 => r x vs H2 Q
theorem pe_tm {o e : Expr} {es : List Expr} {to : TE} {t : TA} {name : Str} {ap cp : Pos} {id : String} {r : V → List V → Hp → VK → Prop} (pa : PlainAttrs "tuple") (slot : Slot "tuple" name id) (kind : typeOf (.builtin id) = pure (.type "method_descriptor")) (rule : MtR X id r) (ho : PE X o to) (ha : PA X (e :: es) t)
    (h1 : attributeBase o name X.env (eval o X.env) = eval o X.env := by rfl) (h2 : ((backTo cp (starEach (e :: es) X.env)).all (fun x => !x.1) && (backToKw cp (keywordEach [] X.env)).all (fun x => x.1.isSome) && decide ((e :: es).length + ([] : List Keyword).length + (if ([] : List Keyword).isEmpty then 0 else 1) < 30)) = true := by rfl)
    (h3 : (ap.endLine == cp.line) = true := by rfl) (h4 : starEach (e :: es) X.env = (false, eval e X.env) :: starEach es X.env := by rfl) (h5 : (backTo cp (starEach es X.env)).any (·.1) = false := by rfl) :
    PE X (.Call (.Attribute o name ap) (e :: es) [] cp) (tTM r to t) := ⟨fun pins s σ H Q J wish => by
  refine wpAny_Call_method_late h1 h2 h3 rfl (thn (ho.run pins s σ H _ J wish) fun v s1 ⟨x, G, JG, rx, ⟨a, ob, xs, ex, ga, da⟩, rest⟩ => ?_)
  subst ex
  cases rx
  obtain ⟨g, _, _, _, o2, g2, c2, _⟩ := JG.hok a _ ga
  have same : o2 = ob := Option.some.inj (g2.symm.trans g)
  rw [same] at c2
  refine ⟨"tuple", id, pa, slot, kind, ⟨ob, g, c2⟩, fun b eb => ⟨ob, by cases eb; exact g, da⟩, ?_⟩
  have args := ha.run cp pins s1 σ G _ JG rest
  rw [h4] at args ⊢
  refine Calls.callWith_builtin ?_ (Calls.evalArgs_plain (thn args fun us s2 ⟨vs, G2, J2, rs, q⟩ => rule pins s2 σ G2 (.ref a) vs (.ref a) us Q J2 rfl rs q))
  show (false || (backTo cp (starEach es X.env)).any (·.1)) = false
  rw [h5]
  rfl⟩
end
section
variable {X : Cx}
/-- range(n) as a value -/
def rRng1 : List V → Hp → VK → Prop := fun vs H Q => ∃ n, vs = [.int n] ∧ ∀ p, H p = none → Q (.ref p) (upd H p (.rng 0 n))
theorem cr_rng1 : CallR X (.type "range") rRng1 := fun pins s σ H vs us Q J rs ⟨n, e, q⟩ => by
  subst e
  obtain ⟨u, eu, t, et⟩ := Vals.one rs
  subst eu et
  exact call_range_1 ⟨.ref s.heap.objs.size, _, J.laid (t' := s.toks + 1 + 1) (o := .rng 0 n) (fun _ _ g => Heap.get?_push_of_some _ g) (Nat.le_refl _) ⟨_, _, _, Heap.get?_push_size _ rfl⟩, rfl, q _ (J.hok.fresh (Nat.le_refl _))⟩
end
end Sl

/-! The mathematics: lanes, spots, stands, moves, in plain Lean. -/
set_option autoImplicit false
namespace Sl
inductive Spot where
  | lane (p : Nat) | side (p : Nat) | out
  deriving DecidableEq, Repr
inductive Wd where
  | go | aside | on
  deriving DecidableEq, Repr
abbrev Mv := Wd × Nat
abbrev Stand := List Spot

/-- how many trains a spot holds -/
def mostAt (ln : List Int) : Spot → Int
  | .side p => ln.getD p 0
  | .lane _ => 1
  | .out => 6
def okSpot (ln : List Int) : Spot → Prop
  | .side p => p < ln.length
  | .lane p => p < ln.length
  | .out => True
structure OkLane (ln : List Int) : Prop where
  one : 1 ≤ ln.length
  most : ln.length ≤ 8
  held : ∀ x ∈ ln, 0 ≤ x ∧ x ≤ 4
structure OkStand (ln : List Int) (wy : List Bool) (S : Stand) : Prop where
  lane : OkLane ln
  one : 1 ≤ wy.length
  most : wy.length ≤ 6
  len : S.length = wy.length
  spot : ∀ s ∈ S, okSpot ln s
  room : ∀ s ∈ S, (S.count s : Int) ≤ mostAt ln s

def spotAhead (ln : List Int) (right : Bool) (p : Nat) : Spot :=
  if right then (if p + 1 < ln.length then .lane (p + 1) else .out)
  else match p with
    | 0 => .out
    | q + 1 => if q < ln.length then .lane q else .out
def hasRoom (ln : List Int) (S : Stand) (s : Spot) : Bool := decide ((S.count s : Int) < mostAt ln s)
def choices (ln : List Int) (wy : List Bool) (S : Stand) (k : Nat) : List (Mv × Spot) :=
  match S.getD k .out with
  | .out => []
  | .lane p => (if hasRoom ln S (spotAhead ln (wy.getD k true) p) then [((.go, k), spotAhead ln (wy.getD k true) p)] else []) ++ (if hasRoom ln S (.side p) then [((.aside, k), .side p)] else [])
  | .side p => if hasRoom ln S (spotAhead ln (wy.getD k true) p) then [((.on, k), spotAhead ln (wy.getD k true) p)] else []
def allowedFrom (ln : List Int) (wy : List Bool) (S : Stand) (i : Nat) : Nat → List (Mv × Spot)
  | 0 => []
  | n + 1 => choices ln wy S i ++ allowedFrom ln wy S (i + 1) n
/-- all allowed moves with the spots that they lead to -/
def allPairs (ln : List Int) (wy : List Bool) (S : Stand) : List (Mv × Spot) := (List.range S.length).flatMap fun k => choices ln wy S k
def allowed (ln : List Int) (wy : List Bool) (S : Stand) : List Mv := (allPairs ln wy S).map (·.1)
def stepsLeft (ln : List Int) (right : Bool) : Spot → Int
  | .out => 0
  | .lane p | .side p => if right then (ln.length : Int) - p else p + 1
def leftOf (ln : List Int) : List Bool → Stand → Int
  | w :: ws, s :: ss => stepsLeft ln w s + leftOf ln ws ss
  | _, _ => 0
/-- a bound of the moves that may still come -/
def weigh1 (ln : List Int) (right : Bool) : Spot → Int
  | .out => 0
  | .lane p => 2 * stepsLeft ln right (.lane p)
  | .side p => 2 * stepsLeft ln right (.side p) - 1
def weigh (ln : List Int) : List Bool → Stand → Int
  | w :: ws, s :: ss => weigh1 ln w s + weigh ln ws ss
  | _, _ => 0

theorem mem_choices {ln : List Int} {wy : List Bool} {S : Stand} {k : Nat} {m : Mv} {s : Spot} (h : (m, s) ∈ choices ln wy S k) :
    m.2 = k ∧ hasRoom ln S s = true ∧ ((∃ p, S.getD k .out = .lane p ∧ ((m.1 = .go ∧ s = spotAhead ln (wy.getD k true) p) ∨ (m.1 = .aside ∧ s = .side p))) ∨ ∃ p, S.getD k .out = .side p ∧ m.1 = .on ∧ s = spotAhead ln (wy.getD k true) p) := by
  unfold choices at h
  split at h
  · simp at h
  · rename_i p hp
    rcases List.mem_append.mp h with h | h
    · split at h
      · rename_i hr
        have e := List.mem_singleton.mp h
        cases e
        exact ⟨rfl, hr, .inl ⟨p, hp, .inl ⟨rfl, rfl⟩⟩⟩
      · simp at h
    · split at h
      · rename_i hr
        have e := List.mem_singleton.mp h
        cases e
        exact ⟨rfl, hr, .inl ⟨p, hp, .inr ⟨rfl, rfl⟩⟩⟩
      · simp at h
  · rename_i p hp
    split at h
    · rename_i hr
      have e := List.mem_singleton.mp h
      cases e
      exact ⟨rfl, hr, .inr ⟨p, hp, rfl, rfl⟩⟩
    · simp at h
theorem spotAhead_ok {ln : List Int} (r : Bool) (p : Nat) : okSpot ln (spotAhead ln r p) := by
  unfold spotAhead
  cases r with
  | true =>
    simp only [if_true]
    split
    · assumption
    · trivial
  | false =>
    simp only [Bool.false_eq_true, if_false]
    cases p with
    | zero => trivial
    | succ q =>
      simp only
      split
      · assumption
      · trivial
theorem spotAhead_notSide {ln : List Int} (r : Bool) (p q : Nat) : spotAhead ln r p ≠ .side q := by
  unfold spotAhead
  cases r with
  | true => simp only [if_true]; split <;> simp
  | false =>
    simp only [Bool.false_eq_true, if_false]
    cases p with
    | zero => simp
    | succ q => simp only; split <;> simp
theorem count_set {α : Type} [DecidableEq α] : ∀ (l : List α) (k : Nat) (a b : α), (l.set k a).count b ≤ l.count b + (if a = b then 1 else 0)
  | [], _, _, _ => by simp
  | x :: l, 0, a, b => by
    simp only [List.set_cons_zero, List.count_cons]
    by_cases h : a = b
    · subst h; simp
    · have : (a == b) = false := by simpa using h
      simp [this, h]
  | x :: l, k + 1, a, b => by
    have ih := count_set l k a b
    simp only [List.set_cons_succ, List.count_cons]
    omega
theorem getD_some {α : Type} {l : List α} {k : Nat} {d x : α} (h : l.getD k d = x) (hd : x ≠ d) : l[k]? = some x := by
  rw [List.getD_eq_getElem?_getD] at h
  cases e : l[k]? with
  | none => rw [e] at h; exact absurd h.symm hd
  | some y => rw [e] at h; simp at h; rw [h]
theorem mem_of_some {α : Type} {l : List α} {k : Nat} {x : α} (h : l[k]? = some x) : x ∈ l := List.mem_of_getElem? h
/-- behind an allowed move the stand is one -/
theorem OkStand.set {ln : List Int} {wy : List Bool} {S : Stand} {k : Nat} {m : Mv} {s : Spot} (o : OkStand ln wy S) (h : (m, s) ∈ choices ln wy S k) : OkStand ln wy (S.set k s) := by
  obtain ⟨_, hr, hw⟩ := mem_choices h
  have hs : okSpot ln s := by
    rcases hw with ⟨p, hp, ⟨_, e⟩ | ⟨_, e⟩⟩ | ⟨p, hp, _, e⟩
    · rw [e]; exact spotAhead_ok _ _
    · rw [e]
      exact (show p < ln.length from o.spot (.lane p) (mem_of_some (getD_some hp (by simp))))
    · rw [e]; exact spotAhead_ok _ _
  refine ⟨o.lane, o.one, o.most, by rw [List.length_set]; exact o.len, fun x hx => ?_, fun x hx => ?_⟩
  · rcases List.mem_or_eq_of_mem_set hx with h | h
    · exact o.spot x h
    · rw [h]; exact hs
  · have c := count_set S k s x
    have hr' : (S.count s : Int) < mostAt ln s := of_decide_eq_true hr
    by_cases e : s = x
    · subst e
      rw [if_pos rfl] at c
      have c' : ((S.set k s).count s : Int) ≤ (S.count s : Int) + 1 := by exact_mod_cast c
      omega
    · rw [if_neg e] at c
      have c' : ((S.set k s).count x : Int) ≤ (S.count x : Int) := by exact_mod_cast c
      rcases List.mem_or_eq_of_mem_set hx with h | h
      · have := o.room x h
        omega
      · exact absurd h.symm e
theorem leftOf_set {ln : List Int} : ∀ {wy : List Bool} {S : Stand} {k : Nat} {w : Bool} {s x : Spot}, wy[k]? = some w → S[k]? = some x → leftOf ln wy (S.set k s) = leftOf ln wy S - stepsLeft ln w x + stepsLeft ln w s
  | [], _, _, _, _, _, h, _ => by simp at h
  | _ :: _, [], _, _, _, _, _, h => by simp at h
  | a :: wy, b :: S, 0, w, s, x, h1, h2 => by
    simp at h1 h2
    subst h1 h2
    simp only [List.set_cons_zero, leftOf]
    omega
  | a :: wy, b :: S, k + 1, w, s, x, h1, h2 => by
    have ih := leftOf_set (ln := ln) (wy := wy) (S := S) (k := k) (w := w) (s := s) (x := x) (by simpa using h1) (by simpa using h2)
    simp only [List.set_cons_succ, leftOf, ih]
    omega
theorem weigh_set {ln : List Int} : ∀ {wy : List Bool} {S : Stand} {k : Nat} {w : Bool} {s x : Spot}, wy[k]? = some w → S[k]? = some x → weigh ln wy (S.set k s) = weigh ln wy S - weigh1 ln w x + weigh1 ln w s
  | [], _, _, _, _, _, h, _ => by simp at h
  | _ :: _, [], _, _, _, _, _, h => by simp at h
  | a :: wy, b :: S, 0, w, s, x, h1, h2 => by
    simp at h1 h2
    subst h1 h2
    simp only [List.set_cons_zero, weigh]
    omega
  | a :: wy, b :: S, k + 1, w, s, x, h1, h2 => by
    have ih := weigh_set (ln := ln) (wy := wy) (S := S) (k := k) (w := w) (s := s) (x := x) (by simpa using h1) (by simpa using h2)
    simp only [List.set_cons_succ, weigh, ih]
    omega
theorem steps_ahead {ln : List Int} {p : Nat} (r : Bool) (hp : p < ln.length) (x : Spot) (hx : x = .lane p ∨ x = .side p) : stepsLeft ln r (spotAhead ln r p) = stepsLeft ln r x - 1 := by
  have e : stepsLeft ln r x = if r then (ln.length : Int) - p else p + 1 := by
    rcases hx with h | h <;> subst h <;> rfl
  rw [e]
  unfold spotAhead
  cases r with
  | true =>
    simp only [if_true]
    split
    · simp only [stepsLeft, if_true]; omega
    · simp only [stepsLeft]; omega
  | false =>
    simp only [Bool.false_eq_true, if_false]
    cases p with
    | zero => simp [stepsLeft]
    | succ q =>
      simp only
      rw [if_pos (by omega)]
      simp only [stepsLeft, Bool.false_eq_true, if_false]
      omega
theorem weigh_ahead {ln : List Int} {p : Nat} (r : Bool) (hp : p < ln.length) : weigh1 ln r (spotAhead ln r p) = 2 * stepsLeft ln r (.lane p) - 2 := by
  have h := steps_ahead r hp (.lane p) (.inl rfl)
  generalize hg : spotAhead ln r p = s at h ⊢
  cases s with
  | lane q => simp only [weigh1]; omega
  | side q => exact absurd hg (spotAhead_notSide r p q)
  | out => simp only [weigh1]; simp only [stepsLeft] at h ⊢; omega
theorem getD_lt {α : Type} {l : List α} {k : Nat} {d : α} (h : k < l.length) : l[k]? = some (l.getD k d) := by
  rw [List.getD_eq_getElem?_getD, List.getElem?_eq_getElem h]
  rfl
theorem lt_of_some {α : Type} {l : List α} {k : Nat} {x : α} (h : l[k]? = some x) : k < l.length := (List.getElem?_eq_some_iff.mp h).1
theorem step_left {ln : List Int} {wy : List Bool} {S : Stand} {k : Nat} {m : Mv} {s : Spot} (o : OkStand ln wy S) (h : (m, s) ∈ choices ln wy S k) :
    leftOf ln wy (S.set k s) = leftOf ln wy S - (if m.1 = .aside then 0 else 1) := by
  obtain ⟨_, _, hw⟩ := mem_choices h
  rcases hw with ⟨p, hp, hq⟩ | ⟨p, hp, e1, e2⟩
  · have hx := getD_some hp (by simp)
    have hk := lt_of_some hx
    have hpl : p < ln.length := o.spot (.lane p) (mem_of_some hx)
    have hwk : wy[k]? = some (wy.getD k true) := getD_lt (by rw [← o.len]; exact hk)
    rw [leftOf_set hwk hx]
    rcases hq with ⟨e1, e2⟩ | ⟨e1, e2⟩
    · rw [e2, steps_ahead _ hpl (.lane p) (.inl rfl), e1]
      simp
      omega
    · rw [e2, e1]
      simp [stepsLeft]
  · have hx := getD_some hp (by simp)
    have hk := lt_of_some hx
    have hpl : p < ln.length := o.spot (.side p) (mem_of_some hx)
    have hwk : wy[k]? = some (wy.getD k true) := getD_lt (by rw [← o.len]; exact hk)
    rw [leftOf_set hwk hx, e2, steps_ahead _ hpl (.side p) (.inr rfl), e1]
    simp
    omega
theorem step_weigh {ln : List Int} {wy : List Bool} {S : Stand} {k : Nat} {m : Mv} {s : Spot} (o : OkStand ln wy S) (h : (m, s) ∈ choices ln wy S k) :
    weigh ln wy (S.set k s) + 1 ≤ weigh ln wy S := by
  obtain ⟨_, _, hw⟩ := mem_choices h
  rcases hw with ⟨p, hp, hq⟩ | ⟨p, hp, e1, e2⟩
  · have hx := getD_some hp (by simp)
    have hk := lt_of_some hx
    have hpl : p < ln.length := o.spot (.lane p) (mem_of_some hx)
    have hwk : wy[k]? = some (wy.getD k true) := getD_lt (by rw [← o.len]; exact hk)
    rw [weigh_set hwk hx]
    rcases hq with ⟨e1, e2⟩ | ⟨e1, e2⟩
    · rw [e2, weigh_ahead _ hpl]
      simp only [weigh1]
      omega
    · rw [e2]
      simp only [weigh1, stepsLeft]
      omega
  · have hx := getD_some hp (by simp)
    have hk := lt_of_some hx
    have hpl : p < ln.length := o.spot (.side p) (mem_of_some hx)
    have hwk : wy[k]? = some (wy.getD k true) := getD_lt (by rw [← o.len]; exact hk)
    rw [weigh_set hwk hx, e2, weigh_ahead _ hpl]
    simp only [weigh1, stepsLeft]
    omega
theorem steps_bound {ln : List Int} (r : Bool) {x : Spot} (hx : okSpot ln x) : 0 ≤ stepsLeft ln r x ∧ stepsLeft ln r x ≤ ln.length ∧ (x ≠ .out → 1 ≤ stepsLeft ln r x) := by
  cases x with
  | out => simp [stepsLeft]
  | lane p =>
    have h : p < ln.length := hx
    cases r <;> simp [stepsLeft] <;> omega
  | side p =>
    have h : p < ln.length := hx
    cases r <;> simp [stepsLeft] <;> omega
theorem weigh1_bound {ln : List Int} (r : Bool) {x : Spot} (hx : okSpot ln x) : 0 ≤ weigh1 ln r x ∧ weigh1 ln r x ≤ 2 * ln.length := by
  have h := steps_bound r hx
  cases x with
  | out => simp only [weigh1]; omega
  | lane p => simp only [weigh1]; omega
  | side p =>
    have h2 := h.2.2 (by simp)
    simp only [weigh1]; omega
theorem weigh_bound {ln : List Int} : ∀ {wy : List Bool} {S : Stand}, (∀ s ∈ S, okSpot ln s) → 0 ≤ weigh ln wy S ∧ weigh ln wy S ≤ 2 * ln.length * wy.length
  | [], _, _ => by simp [weigh]
  | w :: wy, [], _ => by
    simp only [weigh]
    have := Int.mul_nonneg (a := 2 * (ln.length : Int)) (by omega) (Int.natCast_nonneg (w :: wy).length)
    exact ⟨Int.le_refl _, this⟩
  | w :: wy, x :: S, h => by
    have h1 := weigh1_bound w (h x (by simp))
    have h2 := weigh_bound (wy := wy) (S := S) fun s hs => h s (by simp [hs])
    simp only [weigh, List.length_cons]
    have e : (2 * (ln.length : Int)) * ((wy.length + 1 : Nat) : Int) = 2 * ln.length * wy.length + 2 * ln.length := by
      rw [Int.natCast_add, Int.mul_add]; simp
    constructor
    · omega
    · rw [e]; omega
theorem weigh_least {ln : List Int} {wy : List Bool} {S : Stand} (o : OkStand ln wy S) : 0 ≤ weigh ln wy S ∧ weigh ln wy S ≤ 96 := by
  have h := weigh_bound (wy := wy) o.spot
  refine ⟨h.1, Int.le_trans h.2 ?_⟩
  have a : (ln.length : Int) ≤ 8 := by exact_mod_cast o.lane.most
  have b : (wy.length : Int) ≤ 6 := by exact_mod_cast o.most
  have c : 2 * (ln.length : Int) * wy.length ≤ 2 * 8 * wy.length := Int.mul_le_mul_of_nonneg_right (by omega) (by omega)
  omega
/-- what a stand without allowed moves is like -/
theorem stuck {ln : List Int} {wy : List Bool} {S : Stand} (o : OkStand ln wy S) (h : allPairs ln wy S = []) {k : Nat} {x : Spot} (hx : S[k]? = some x) (hn : x ≠ .out) :
    ∃ p, (x = .lane p ∨ x = .side p) ∧ (∃ g, spotAhead ln (wy.getD k true) p = .lane g ∧ (Spot.lane g) ∈ S) ∧ (x = .lane p → hasRoom ln S (.side p) = false) := by
  have hk := lt_of_some hx
  have hc : choices ln wy S k = [] := by
    have := List.flatMap_eq_nil_iff.mp h k (List.mem_range.mpr hk)
    exact this
  have hg : S.getD k .out = x := by rw [List.getD_eq_getElem?_getD, hx]; rfl
  have outroom : hasRoom ln S .out = true := by
    have h1 : S.count .out < S.length := by
      rcases Nat.lt_or_ge (S.count .out) S.length with h | h
      · exact h
      · have e : S.count .out = S.length := Nat.le_antisymm List.count_le_length h
        have a := List.count_eq_length.mp e x (mem_of_some hx)
        exact absurd a.symm hn
    have h2 := o.len
    have h3 := o.most
    refine decide_eq_true ?_
    show (S.count Spot.out : Int) < 6
    omega
  have key : ∀ p, hasRoom ln S (spotAhead ln (wy.getD k true) p) = false → ∃ g, spotAhead ln (wy.getD k true) p = .lane g ∧ (Spot.lane g) ∈ S := fun p hf => by
    generalize hs : spotAhead ln (wy.getD k true) p = s at hf
    cases s with
    | out => rw [outroom] at hf; cases hf
    | side q => exact absurd hs (spotAhead_notSide _ _ _)
    | lane g =>
      refine ⟨g, rfl, ?_⟩
      have h1 : ¬ ((S.count (Spot.lane g) : Int) < 1) := of_decide_eq_false hf
      have h2 : 0 < S.count (Spot.lane g) := by omega
      exact List.count_pos_iff.mp h2
  unfold choices at hc
  rw [hg] at hc
  cases x with
  | out => exact absurd rfl hn
  | lane p =>
    simp only at hc
    obtain ⟨c1, c2⟩ := List.append_eq_nil_iff.mp hc
    have f1 : hasRoom ln S (spotAhead ln (wy.getD k true) p) = false := by
      cases e : hasRoom ln S (spotAhead ln (wy.getD k true) p) with
      | false => rfl
      | true => rw [e, if_pos rfl] at c1; cases c1
    have f2 : hasRoom ln S (.side p) = false := by
      cases e : hasRoom ln S (.side p) with
      | false => rfl
      | true => rw [e, if_pos rfl] at c2; cases c2
    exact ⟨p, .inl rfl, key p f1, fun _ => f2⟩
  | side p =>
    simp only at hc
    have f1 : hasRoom ln S (spotAhead ln (wy.getD k true) p) = false := by
      cases e : hasRoom ln S (spotAhead ln (wy.getD k true) p) with
      | false => rfl
      | true => rw [e, if_pos rfl] at hc; cases hc
    exact ⟨p, .inr rfl, key p f1, fun e => by cases e⟩
end Sl

set_option Elab.async false
set_option linter.all false
set_option maxRecDepth 100000
set_option maxHeartbeats 4000000
/-! Words over the layer: data that never changes (Im), defs by name (FnAt, DefOk), comprehensions that only map (lc_map). -/
namespace Sl
open PySem PySem.Spec PyProof.Rows L2
/-! ### heaps -/
/-- a tuple of xs at a, without a dict of its own -/
def TupAt (H : Hp) (a : Addr) (xs : List V) : Prop := ∃ o, H a = some (.frz o (.tup xs)) ∧ o.dict = none
theorem TupAt.sq {K : PySem.W.Frag} {H : Hp} {a : Addr} {xs : List V} (h : TupAt H a xs) : SqT K H a xs := by
  obtain ⟨o, e, _⟩ := h
  exact .inl (.inr ⟨o, e⟩)
theorem TupAt.new {H : Hp} {a : Addr} {o : Obj} {xs : List V} (h : o.dict = none) : TupAt (upd H a (.frz o (.tup xs))) a xs := ⟨o, upd_same, h⟩
theorem TupAt.has {H : Hp} {a : Addr} {xs : List V} (h : TupAt H a xs) : ∃ u, H a = some u := by
  obtain ⟨o, e, _⟩ := h
  exact ⟨_, e⟩
theorem TupAt.tm {H : Hp} {a : Addr} {xs : List V} (h : TupAt H a xs) : ∃ b o ys, (V.ref a) = .ref b ∧ H b = some (.frz o (.tup ys)) ∧ o.dict = none := by
  obtain ⟨o, e, d⟩ := h
  exact ⟨a, o, xs, rfl, e, d⟩
/-- tuples stay -/
def Ti (H H' : Hp) : Prop := ∀ a xs, TupAt H a xs → TupAt H' a xs
theorem Ti.refl (H : Hp) : Ti H H := fun _ _ h => h
theorem Ti.trans {H H1 H2 : Hp} (a : Ti H H1) (b : Ti H1 H2) : Ti H H2 := fun x o h => b x o (a x o h)
theorem Ti.of {H H' : Hp} (s : Same H H') : Ti H H' := fun a xs ⟨o, e, d⟩ => ⟨o, s a _ e, d⟩
theorem Ti.lst {H : Hp} {D : Addr} {xs : List V} {o : HO} (h : H D = some (.lst xs)) : Ti H (upd H D o) := fun a ys ⟨u, e, d⟩ => ⟨u, by
  rw [upd_ne (fun z => by subst z; rw [h] at e; cases e)]
  exact e, d⟩
theorem Ti.new {H : Hp} {p : Addr} {o : HO} (h : H p = none) : Ti H (upd H p o) := fun a ys ⟨u, e, d⟩ => ⟨u, by
  rw [upd_ne (ne_of_none e h)]
  exact e, d⟩
theorem same_new {H : Hp} {p : Addr} {o : HO} (h : H p = none) : Same H (upd H p o) := fun b x e => by
  rw [upd_ne (ne_of_none e h)]
  exact e
/-- an object that the first heap does not know may change -/
theorem same_mut {H H' : Hp} {p : Addr} {o : HO} (e : Same H H') (h : H p = none) : Same H (upd H' p o) := fun a u ha => by
  rw [upd_ne (ne_of_none ha h)]
  exact e a u ha
/-! ### data that never changes -/
mutual
inductive Im (H : Hp) : V → PyData → Prop
  | non : Im H .non .none
  | bl (b : Bool) : Im H (.bl b) (.bool b)
  | int (i : Int) : Im H (.int i) (.int i)
  | str (x : Str) : Im H (.str x) (.str x)
  | tup {a : Addr} {xs : List V} {ds : List PyData} : TupAt H a xs → ImAll H xs ds → Im H (.ref a) (.tuple ds)
inductive ImAll (H : Hp) : List V → List PyData → Prop
  | nil : ImAll H [] []
  | cons {v : V} {vs : List V} {d : PyData} {ds : List PyData} : Im H v d → ImAll H vs ds → ImAll H (v :: vs) (d :: ds)
end
mutual
theorem Im.mono {H H' : Hp} (t : Ti H H') : ∀ {d : PyData} {v : V}, Im H v d → Im H' v d
  | _, _, .non => .non
  | _, _, .bl b => .bl b
  | _, _, .int i => .int i
  | _, _, .str x => .str x
  | _, _, .tup h a => .tup (t _ _ h) (ImAll.mono t a)
theorem ImAll.mono {H H' : Hp} (t : Ti H H') : ∀ {ds : List PyData} {vs : List V}, ImAll H vs ds → ImAll H' vs ds
  | _, _, .nil => .nil
  | _, _, .cons h a => .cons (Im.mono t h) (ImAll.mono t a)
end
mutual
theorem Im.dp {K : PySem.W.Frag} {H : Hp} : ∀ {d : PyData} {v : V}, Im H v d → Dp K H v d
  | _, _, .non => .non
  | _, _, .bl b => .bl b
  | _, _, .int i => .int i
  | _, _, .str x => .str x
  | _, _, .tup h a => .tup h.sq (ImAll.dp a)
theorem ImAll.dp {K : PySem.W.Frag} {H : Hp} : ∀ {ds : List PyData} {vs : List V}, ImAll H vs ds → DpAll K H vs ds
  | _, _, .nil => .nil
  | _, _, .cons h a => .cons (Im.dp h) (ImAll.dp a)
end
theorem ImAll.length {H : Hp} : ∀ {vs : List V} {ds : List PyData}, ImAll H vs ds → vs.length = ds.length
  | _, _, .nil => rfl
  | _, _, .cons _ a => by simp [ImAll.length a]
theorem ImAll.get {H : Hp} : ∀ {vs : List V} {ds : List PyData} {i : Nat} {d : PyData}, ImAll H vs ds → ds[i]? = some d → ∃ v, vs[i]? = some v ∧ Im H v d
  | _, _, _, _, .nil, e => by simp at e
  | _, _, 0, _, .cons h _, e => by simp at e; subst e; exact ⟨_, rfl, h⟩
  | _, _, i + 1, d, .cons _ a, e => by
    obtain ⟨v, h1, h2⟩ := ImAll.get (i := i) (d := d) a (by simpa using e)
    exact ⟨v, by simpa using h1, h2⟩
theorem ImAll.getV {H : Hp} : ∀ {vs : List V} {ds : List PyData} {i : Nat} {v : V}, ImAll H vs ds → vs[i]? = some v → ∃ d, ds[i]? = some d ∧ Im H v d
  | _, _, _, _, .nil, e => by simp at e
  | _, _, 0, _, .cons h _, e => by simp at e; subst e; exact ⟨_, rfl, h⟩
  | _, _, i + 1, v, .cons _ a, e => by
    obtain ⟨d, h1, h2⟩ := ImAll.getV (i := i) (v := v) a (by simpa using e)
    exact ⟨d, by simpa using h1, h2⟩
theorem ImAll.append {H : Hp} : ∀ {vs ws : List V} {ds es : List PyData}, ImAll H vs ds → ImAll H ws es → ImAll H (vs ++ ws) (ds ++ es)
  | _, _, _, _, .nil, b => b
  | _, _, _, _, .cons h a, b => .cons h (ImAll.append a b)
theorem ImAll.take {H : Hp} : ∀ {vs : List V} {ds : List PyData} (n : Nat), ImAll H vs ds → ImAll H (vs.take n) (ds.take n)
  | _, _, 0, _ => .nil
  | _, _, _ + 1, .nil => .nil
  | _, _, n + 1, .cons h a => .cons h (ImAll.take n a)
theorem ImAll.drop {H : Hp} : ∀ {vs : List V} {ds : List PyData} (n : Nat), ImAll H vs ds → ImAll H (vs.drop n) (ds.drop n)
  | _, _, 0, a => a
  | _, _, _ + 1, .nil => .nil
  | _, _, n + 1, .cons _ a => ImAll.drop n a
/-- by places -/
theorem ImAll.of {H : Hp} : ∀ {vs : List V} {ds : List PyData}, vs.length = ds.length → (∀ (i : Nat) (v : V) (d : PyData), vs[i]? = some v → ds[i]? = some d → Im H v d) → ImAll H vs ds
  | [], [], _, _ => .nil
  | [], _ :: _, h, _ => by simp at h
  | _ :: _, [], h, _ => by simp at h
  | v :: vs, d :: ds, h, f => .cons (f 0 v d rfl rfl) (ImAll.of (by simpa using h) fun i x y hx hy => f (i + 1) x y (by simpa using hx) (by simpa using hy))
/-! ### defs by name -/
section
variable {P : Program} {w : World} {K : PySem.W.Frag} {mg : Str → Option Value} {base : Heap}
/-- the def st stands at the name x -/
structure FnAt (K : PySem.W.Frag) (mg : Str → Option Value) (x : Str) (st : Stmt) (ps : List Str) : Prop where
  ex : ∃ f fd, Fun K x x st f fd ∧ mg x = some (.ref f) ∧ Binds K fd ps []
/-- the def at the name x keeps the promise sp -/
structure DefOk (P : Program) (w : World) (K : PySem.W.Frag) (mg : Str → Option Value) (base : Heap) (k : Nat) (x : Str) (ps : List Str) (sp : Sp) : Prop where
  ex : ∃ f fd, FnOk P w K mg base CX0 k f fd ps sp ∧ mg x = some (.ref f) ∧ PySem.W.keepIn K (.ref f) = true ∧ Binds K fd ps []
theorem FnAt.ok {x : Str} {st : Stmt} {N ps : List Str} {k : Nat} {sp : Sp} (F : FnAt K mg x st ps) (S : FnScope N ps (defScope st)) (len : ∀ vs H Q E, sp vs H Q E → vs.length = ps.length)
    (hbody : ∀ (f : Addr) (cdv : Value) (A : Around) (outer : List Env) (s : Shared) (H : Hp) (vs : List V) (Q : VK) (E : XK), Room k (A.deeper (envOfC x (defScope st) s.heap.objs.size f cdv)) → sp vs H Q E →
      ∃ t, PSs (cxOf CX0 P w K mg base N x (defScope st) f cdv A outer s H E).nox (defBody st) t ∧ t { nx := fun _ H' => Q .non H', rt := Q } (start N vs) H) : DefOk P w K mg base (k + 1) x ps sp := by
  obtain ⟨f, fd, F1, g, b⟩ := F.ex
  exact ⟨f, fd, F1.ok S len fun cdv A outer s H vs Q E hr h => hbody f cdv A outer s H vs Q E hr h, g, F1.kp, b⟩
theorem pe_def {X : Cx} {x : Str} {k : Nat} {ps : List Str} {sp : Sp} {e : Expr} {es : List Expr} {t : TA} {p pos : Pos} (D : DefOk X.prog X.w X.K X.mg X.base k x ps sp) (hr : Room k X.A) (ha : PA X (e :: es) t)
    (hg : Gl X x := by rfl) (hdb : (x == ("__debug__" : Str)) = false := by decide) (he : starEach (e :: es) X.env = (false, eval e X.env) :: starEach es X.env := by rfl) (hpl : (backTo pos (starEach es X.env)).any (·.1) = false := by rfl) :
    PE X (.Call (.Name x p) (e :: es) [] pos) (tCall sp [] E0 t) := by
  obtain ⟨f, fd, F, g, kp, b⟩ := D.ex
  exact pe_call F hr hg g kp b .nil pass0 ha hdb he hpl
theorem pe_cint {X : Cx} {x : Str} {i : Int} {pos : Pos} (h : ∃ t, X.mg x = some (.int i t)) (hg : Gl X x := by rfl) (hd : (x == ("__debug__" : Str)) = false := by decide) : PE X (.Name x pos) (tC (.int i)) := by
  obtain ⟨t, h⟩ := h
  exact pe_glob hg h ⟨t, rfl⟩ hd
theorem pe_ty {X : Cx} {x : Str} {T : String} {pos : Pos} (hm : X.mg x = none) (hv : bootBuiltins x = some (.type T)) (hg : Gl X x := by rfl) (hn : x ≠ "__name__" := by decide) (hd : (x == ("__debug__" : Str)) = false := by decide) : PE X (.Name x pos) (tC (.ty T)) :=
  pe_bltn hg hm hv rfl hn hd
end
/-! ### walks -/
section
variable {K : PySem.W.Frag} {a b : Addr} {xs ys : List V}
theorem walk_zipM {n : Nat} (hx : xs.length = n) (hy : ys.length = n) : Walk (ItzM K a b) n (fun H => SqL K H a xs ∧ SqT K H b ys) (YPair (fun i => xs[i]?) (fun i => ys[i]?)) where
  goes := fun i _ hi ⟨l, t⟩ => ⟨xs, ys, xs[i], ys[i], ⟨l, by simp [hx, hi]⟩, t, by simp [hy, hi]⟩
  stops := fun _ ⟨l, t⟩ => ⟨xs, ys, ⟨l, by omega⟩, ⟨t, by omega⟩, by omega⟩
  yields := fun i H v H' _ ⟨l, t⟩ ⟨T, x, z, ev, new, eH, f1, f2⟩ => ⟨T, x, z, ev, new, eH, f1 xs l, f2 ys t⟩
end
/-- what a comprehension without ifs asks, its list at D (at the start: H0) -/
abbrev LcAsk (J : It) (g : TG) (te : TE) (vs : List Nat) (σ : L2.St) (D : Addr) (H0 : Hp) (End : Hp → Prop) : Prop := ∃ Inv_ : Nat → Nat → Hp → Prop, (∃ m, Inv_ 0 m H0) ∧ ∀ i m H, Inv_ i m H → (J.stop i H ∧ End H) ∨
  (J.go i H ∧ ∃ Next : Hp → Prop, (∀ G, Next G → ∃ m', m' < m ∧ Inv_ (i + 1) m' G) ∧ ∀ x G, J.yld i H x G → g x (wipe σ vs) G fun σ2 H2 => wipe σ2 vs = wipe σ vs ∧
    tYes σ2 H2 fun b H3 => if b = true then te σ2 H3 fun y H4 => ∃ acc, H4 D = some (.lst acc) ∧ acc.length < sizeLine ∧ Next (upd H4 D (.lst (acc ++ [y]))) else Next H3)
/-- a comprehension without ifs whose element changes nothing that is known -/
theorem lc_map {J : It} {n : Nat} {G : Hp → Prop} {Y : Nat → Hp → V → Hp → Prop} (w : Walk J n G Y) {g : TG} {te : TE} {vs : List Nat} {σ : L2.St} {H1 : Hp} {D : Addr} {Qd : Hp → Prop} (E : Nat → V → Hp → Prop)
    (mono : ∀ i y H H', Ti H H' → E i y H → E i y H') (hn : n < sizeLine) (fresh : H1 D = none) (hG : ∀ H, Same H1 H → G H)
    (hs : ∀ i x H H' (k : V → Hp → Prop), i < n → Same H1 H → Y i H x H' → (∀ y H4, Same H H4 → E i y H4 → k y H4) → g x (wipe σ vs) H' fun σ2 H2 => wipe σ2 vs = wipe σ vs ∧ te σ2 H2 k)
    (hd : ∀ H ys, Same H1 H → H D = some (.lst ys) → ys.length = n → (∀ i y, ys[i]? = some y → E i y H) → Qd H) :
    LcAsk J g te vs σ D (upd H1 D (.lst [])) Qd := by
  refine lc_it w (fun i H => Same H1 H ∧ ∃ acc, H D = some (.lst acc) ∧ acc.length = i ∧ ∀ j y, acc[j]? = some y → E j y H) ⟨same_new fresh, [], upd_same, rfl, fun j y e => by simp at e⟩ (fun i H _ p => hG H p.1) (fun i x H H' hi p y => ?_) (fun H p => ?_)
  · obtain ⟨sm, acc, ea, la, el⟩ := p
    exact hs i x H H' _ hi sm y fun v H4 s4 ev => ⟨acc, s4 _ _ ea, by omega, same_mut (sm.trans s4) fresh, acc ++ [v], upd_same, by simp [la], fun j z ez => by
      have tl : Ti H4 (upd H4 D (.lst (acc ++ [v]))) := Ti.lst (s4 _ _ ea)
      by_cases hj : j < acc.length
      · rw [List.getElem?_append_left hj] at ez
        exact mono _ _ _ _ ((Ti.of s4).trans tl) (el j z ez)
      · have hj2 : j = acc.length := by
          have := (List.getElem?_eq_some_iff.mp ez).1
          simp at this
          omega
        subst hj2
        simp at ez
        subst ez
        rw [la]
        exact mono _ _ _ _ tl ev⟩
  · obtain ⟨sm, acc, ea, la, el⟩ := p
    exact hd H acc sm ea la el
end Sl
namespace Sl
open PySem PySem.Spec PyProof.Rows L2
/-- the outer for of a comprehension with two -/
theorem lc2_it {J : It} {n : Nat} {G : Hp → Prop} {Y : Nat → Hp → V → Hp → Prop} (w : Walk J n G Y) {g : TG} {vs : List Nat} {σ : L2.St} {H1 : Hp} {D : Addr} {Qd : Hp → Prop} {B : L2.St → Hp → (Hp → Prop) → Prop} (Pv : Nat → Hp → Prop)
    (h0 : Pv 0 (upd H1 D (.lst []))) (hG : ∀ i H, i ≤ n → Pv i H → G H)
    (hs : ∀ i x H H', i < n → Pv i H → Y i H x H' → g x (wipe σ vs) H' fun σ2 H2 => wipe σ2 vs = wipe σ vs ∧ tYes σ2 H2 fun b H3 => if b = true then B σ2 H3 (Pv (i + 1)) else Pv (i + 1) H3) (hd : ∀ H, Pv n H → Qd H) :
    ∃ Inv_ : Nat → Nat → Hp → Prop, (∃ m, Inv_ 0 m (upd H1 D (.lst []))) ∧ ∀ i m H, Inv_ i m H → (J.stop i H ∧ Qd H) ∨
      (J.go i H ∧ ∃ Next : Hp → Prop, (∀ G, Next G → ∃ m', m' < m ∧ Inv_ (i + 1) m' G) ∧ ∀ x G, J.yld i H x G → g x (wipe σ vs) G fun σ2 H2 => wipe σ2 vs = wipe σ vs ∧ tYes σ2 H2 fun b H3 => if b = true then B σ2 H3 Next else Next H3) := by
  refine ⟨fun i m H => (m = n - i ∧ i ≤ n) ∧ Pv i H, ⟨n, ⟨by simp, Nat.zero_le _⟩, h0⟩, ?_⟩
  rintro i m H ⟨⟨rfl, le⟩, p⟩
  rcases Nat.lt_or_eq_of_le le with lt | rfl
  · exact .inr ⟨w.goes i H lt (hG i H le p), Pv (i + 1), fun G p' => ⟨n - (i + 1), by omega, ⟨rfl, lt⟩, p'⟩, fun x G y => hs i x H G lt p (w.yields i H x G lt (hG i H le p) y)⟩
  · exact .inl ⟨w.stops H (hG _ H le p), hd H p⟩
/-- the inner one -/
theorem in_it {J : It} {n : Nat} {G : Hp → Prop} {Y : Nat → Hp → V → Hp → Prop} (w : Walk J n G Y) {g : TG} {te : TE} {vs : List Nat} {σ : L2.St} {H1 : Hp} {D : Addr} {Nx : Hp → Prop} (Pv : Nat → Hp → Prop) (h0 : Pv 0 H1) (hG : ∀ i H, i ≤ n → Pv i H → G H)
    (hs : ∀ i x H H', i < n → Pv i H → Y i H x H' → g x (wipe σ vs) H' fun σ2 H2 => wipe σ2 vs = wipe σ vs ∧ tYes σ2 H2 fun b H3 =>
      if b = true then te σ2 H3 fun y H4 => ∃ acc, H4 D = some (.lst acc) ∧ acc.length < sizeLine ∧ Pv (i + 1) (upd H4 D (.lst (acc ++ [y]))) else Pv (i + 1) H3) (hd : ∀ H, Pv n H → Nx H) :
    LcAsk J g te vs σ D H1 Nx := by
  refine ⟨fun i m H => (m = n - i ∧ i ≤ n) ∧ Pv i H, ⟨n, ⟨by simp, Nat.zero_le _⟩, h0⟩, ?_⟩
  rintro i m H ⟨⟨rfl, le⟩, p⟩
  rcases Nat.lt_or_eq_of_le le with lt | rfl
  · exact .inr ⟨w.goes i H lt (hG i H le p), Pv (i + 1), fun G p' => ⟨n - (i + 1), by omega, ⟨rfl, lt⟩, p'⟩, fun x G y => hs i x H G lt p (w.yields i H x G lt (hG i H le p) y)⟩
  · exact .inl ⟨w.stops H (hG _ H le p), hd H p⟩
/-! ### tuples made -/
section
variable {K : PySem.W.Frag} {H : Hp} {a b : Addr} {xs ys : List V} {Q : VK} {lo hi : Option Int}
theorem nT_q (q : ∀ H' p, Same H H' → TupAt H' p xs → Q (.ref p) H') : nT H xs Q := fun p o hp ho => q _ p (same_new hp) (TupAt.new ho)
theorem slF (h : TupAt H a xs) (q : ∀ H' p, Same H H' → TupAt H' p (cutV xs lo hi) → Q (.ref p) H') : rSlF K (.ref a) lo hi H Q :=
  ⟨a, xs, ⟨rfl, h.sq⟩, fun e => q H a (Same.refl H) (by
    have z : cutV xs lo hi = xs := by
      unfold cutV
      rw [e.1, e.2]
      simp
    rw [z]
    exact h), fun _ => nT_q q⟩
theorem catF (h : TupAt H a xs) (h2 : TupAt H b ys) (hz : xs.length + ys.length ≤ sizeLine) (q : ∀ H' p, Same H H' → TupAt H' p (xs ++ ys) → Q (.ref p) H') : rCatF K (.ref a) (.ref b) H Q :=
  ⟨a, b, xs, ys, ⟨rfl, rfl⟩, ⟨h.sq, h2.sq⟩, hz, fun e => q H b (Same.refl H) (by rw [e]; exact h2), fun _ e => q H a (Same.refl H) (by rw [e, List.append_nil]; exact h), fun _ _ => nT_q q⟩
theorem cut_to {k : Nat} (hk : k ≤ xs.length) : cutV xs none (some (k : Int)) = xs.take k := by
  unfold cutV
  rw [HT.sIx_none, show HT.sIx xs.length xs.length (some (k : Int)) = min k xs.length from HT.sIx_nat xs.length xs.length k]
  simp [Nat.min_eq_left hk]
theorem cut_from {k : Nat} (hk : k ≤ xs.length) : cutV xs (some (k : Int)) none = xs.drop k := by
  unfold cutV
  rw [HT.sIx_none, show HT.sIx xs.length 0 (some (k : Int)) = min k xs.length from HT.sIx_nat xs.length 0 k]
  rw [Nat.min_eq_left hk]
  exact List.take_of_length_le (Nat.le_of_eq List.length_drop)
end
theorem set_parts {α : Type} : ∀ {l : List α} {k : Nat} {x : α}, k < l.length → l.take k ++ [x] ++ l.drop (k + 1) = l.set k x
  | [], _, _, h => by simp at h
  | a :: l, 0, x, _ => by simp
  | a :: l, k + 1, x, h => by
    have ih := set_parts (l := l) (k := k) (x := x) (by simpa using h)
    simp only [List.take_succ_cons, List.cons_append, List.drop_succ_cons, List.set_cons_succ]
    rw [ih]
theorem ImAll.set {H : Hp} {v : V} {d : PyData} (hv : Im H v d) : ∀ {vs : List V} {ds : List PyData} (k : Nat), ImAll H vs ds → ImAll H (vs.set k v) (ds.set k d)
  | _, _, _, .nil => .nil
  | _, _, 0, .cons _ a => .cons hv a
  | _, _, k + 1, .cons h a => .cons h (ImAll.set hv k a)
/-- walks whose wish is told over K itself -/
theorem pi_listK {X : Cx} {tg l : Expr} {tl : TE} {K : PySem.W.Frag} (hl : PE X l tl) (hK : X.K = K := by rfl) : PI X tg l (iList K tl) := by
  subst hK
  exact pi_list hl
theorem pi_tupK {X : Cx} {tg l : Expr} {tl : TE} {K : PySem.W.Frag} (hl : PE X l tl) (hK : X.K = K := by rfl) : PI X tg l (iTup K tl) := by
  subst hK
  exact pi_tup hl
end Sl

set_option Elab.async false
set_option linter.all false
set_option maxRecDepth 100000
set_option maxHeartbeats 2000000
/-! own rules while an exception is handled: a list's end, a tuple's end, a tuple that is unpacked -/
namespace SlH
open PySem PySem.Spec PySem.Calls PyProof.Rows HotX
section
variable {prog : Program} {w : World} {A : Around} {E : Value → Shared → Prop} {s : Shared}
/-- the handled one is no iterator of two fields -/
theorem hot_ne {x1 it : Addr} {o : Obj} {h : Heap} {u v : Value} (hot : HotAt A x1 h) (ho : h.get? it = some o) (hd : o.data = .fields #[u, v]) : x1 ≠ it := by
  obtain ⟨_, o1, vs1, h1, d1, c1⟩ := hot
  rintro rfl
  rw [ho] at h1
  cases h1
  rw [hd] at d1
  cases d1
  simp at c1
theorem hot_upd {x1 it : Addr} {f : Obj → Obj} {h : Heap} (hot : HotAt A x1 h) (ne : x1 ≠ it) : HotAt A x1 (h.update it f) := by
  obtain ⟨hh, o1, vs1, h1, d1, c1⟩ := hot
  exact ⟨hh, o1, vs1, by rw [Heap.get?_update_other _ _ ne.symm]; exact h1, d1, c1⟩
theorem hot_in1 {x1 : Addr} {h : Heap} (hot : HotAt A x1 h) : HotAt A.in1 x1 h := hot
/-- StopIteration made and raised there -/
theorem stop_hot {α : Type} {x1 : Addr} {Q : α → Shared → Prop} (hot : HotAt A x1 s.heap) (hE : ∀ (a : Addr) (h' : Heap), (∀ b o, s.heap.get? b = some o → h'.get? b = some o) → (∃ o, h'.get? a = some o ∧ o.cls = .type "StopIteration") → E (.ref a) { s with heap := h' }) :
    wpAny (model prog w) A (do let e ← newExc (.type "StopIteration") []; (raiseNew e : Sem α)) Q E s := by
  refine wpAny_bind ?_
  simp only [newExc, newTuple]
  refine wpAny_bind (wpAny_newObj_type ?_ (by size_fits))
  refine wpAny_bind (m := firstArgMember _ _) (wpAny_of_eq (a := Value.none) (by first | rfl | (simp only [firstArgMember]; rfl)) ?_)
  refine wpAny_newObj_type ?_ (by size_fits)
  obtain ⟨hh, o1, vs1, h1, d1, c1⟩ := hot
  refine raiseNew_hot ⟨hh, o1, vs1, Heap.get?_push_of_some _ (Heap.get?_push_of_some _ h1), d1, c1⟩ (Nat.ne_of_lt (Heap.lt_size (Heap.get?_push_of_some _ h1))) (Heap.get?_push_size _ rfl) rfl (by first | (simp; done) | (simp; omega) | (simp only [Array.size_append]; simp; omega)) ?_
  refine hE _ _ (fun b o e => ?_) ⟨_, Heap.get?_update_self _ (Heap.get?_push_size _ rfl) rfl, rfl⟩
  rw [Heap.get?_update_other _ _ (Nat.ne_of_gt (Heap.lt_size (Heap.get?_push_of_some _ e)))]
  exact Heap.get?_push_of_some _ (Heap.get?_push_of_some _ e)
theorem list_end {x1 it l : Addr} {i : Nat} {items} {Q : Option Value → Shared → Prop} (hot : HotAt A x1 s.heap) (hit : s.heap.IsListIter it l i) (hl : s.heap.IsList l items) (hx : items[i]? = none)
    (hQ : ∀ h', Heap.ExtBut it s.heap h' → Q none { s with heap := h' }) : wpAny (model prog w) A (pyNext (.ref it)) Q E s := by
  obtain ⟨o, ho, hc, hd⟩ := id hit
  obtain ⟨ol, hol, _, nl, hdl⟩ := hl
  have ne := hot_ne hot ho hd
  unfold pyNext
  refine wpAny_bind (wpAny_attempt (wpAny_callSpecial?_slot (name := Str.ofString "__next__") hit.typeIs slot_listiter_next
    (wpAny_call_entry slot_listiter_next hit.typeIs entry_listiter_next ?_ (args_listiter_next _))))
  show wpAny _ _ (field (.ref it) 0 >>= _) _ _ s
  refine wpAny_bind (wpAny_field ho hd (x := .ref l) rfl ?_)
  show wpAny _ _ (if (Value.ref l == Value.none) = true then _ else _) _ _ s
  rw [if_neg (show ¬ ((Value.ref l == Value.none) = true) from Bool.false_ne_true)]
  show wpAny _ _ (field (.ref it) 1 >>= _) _ _ s
  refine wpAny_bind (wpAny_field ho hd (x := .int i 0) rfl ?_)
  show wpAny _ _ (seqItems? (.ref l) >>= _) _ _ s
  refine wpAny_bind (wpAny_seqItems hol hdl ?_)
  simp only [Int.toNat_natCast, hx]
  refine wpAny_bind (wpAny_rule (wpAny_bind (wpAny_setField ho hd (by simp) ?_)))
  refine stop_hot (hot_in1 (hot_upd hot ne)) fun a h' k ⟨oa, ea, ca⟩ => ?_
  refine wpAny_bind (wpAny_isInstance (T := "StopIteration") (b := true) ⟨_, ea, ca⟩ isSubtype_stop ?_)
  exact wpAny_pure (hQ _ fun b o' hb e => k b o' (by rw [Heap.get?_update_other _ _ (Ne.symm hb)]; exact e))
theorem tuple_end {x1 it t : Addr} {i : Nat} {items} {Q : Option Value → Shared → Prop} (hot : HotAt A x1 s.heap) (hit : IsTupIter s.heap it t i) (ht : IsTup s.heap t items) (hx : items[i]? = none)
    (hQ : ∀ h', Heap.ExtBut it s.heap h' → Q none { s with heap := h' }) : wpAny (model prog w) A (pyNext (.ref it)) Q E s := by
  obtain ⟨o, ho, hc, hd⟩ := id hit
  obtain ⟨ol, hol, _, nl, hdl⟩ := ht
  have ne := hot_ne hot ho hd
  unfold pyNext
  refine wpAny_bind (wpAny_attempt (wpAny_callSpecial?_slot (name := Str.ofString "__next__") hit.typeIs slot_tupleiter_next
    (wpAny_call_entry slot_tupleiter_next hit.typeIs entry_tupleiter_next ?_ (args_tupleiter_next _))))
  show wpAny _ _ (field (.ref it) 0 >>= _) _ _ s
  refine wpAny_bind (wpAny_field ho hd (x := .ref t) rfl ?_)
  show wpAny _ _ (if (Value.ref t == Value.none) = true then _ else _) _ _ s
  rw [if_neg (show ¬ ((Value.ref t == Value.none) = true) from Bool.false_ne_true)]
  show wpAny _ _ (field (.ref it) 1 >>= _) _ _ s
  refine wpAny_bind (wpAny_field ho hd (x := .int i 0) rfl ?_)
  show wpAny _ _ (seqItems? (.ref t) >>= _) _ _ s
  refine wpAny_bind (wpAny_seqItems hol hdl ?_)
  simp only [Int.toNat_natCast, hx]
  refine wpAny_bind (wpAny_rule (wpAny_bind (wpAny_setField ho hd (by simp) ?_)))
  refine stop_hot (hot_in1 (hot_upd hot ne)) fun a h' k ⟨oa, ea, ca⟩ => ?_
  refine wpAny_bind (wpAny_isInstance (T := "StopIteration") (b := true) ⟨_, ea, ca⟩ isSubtype_stop ?_)
  exact wpAny_pure (hQ _ fun b o' hb e => k b o' (by rw [Heap.get?_update_other _ _ (Ne.symm hb)]; exact e))
/-- a, b, .. = a tuple of as many -/
theorem unpack_hot {x1 : Addr} {env : Env} {elts : List Expr} {k0} {pos : Pos} {t : Addr} {items : Array Value} {Q : Unit → Shared → Prop} (hot : HotAt A x1 s.heap) (ht : IsTup s.heap t items)
    (hn : (assignEach elts env).length = items.size) (hstar : (assignEach elts env).findIdx? (·.1) = none)
    (h : ∀ h', Heap.ExtBut s.heap.objs.size s.heap h' → wpAny (model prog w) A (assignInOrder ((assignEach elts env).map (·.2)) items.toList) Q E { s with heap := h' }) :
    wpAny (model prog w) A (assign (.Tuple elts k0 pos) env (.ref t)) Q E s := by
  have hlt : t ≠ s.heap.objs.size := by obtain ⟨o, ho, _⟩ := ht; exact Nat.ne_of_lt (Heap.lt_size ho)
  rw [assign_Tuple]
  refine wpAny_bind (wpAny_standAt ?_)
  unfold unpack
  rw [hn, hstar]
  refine wpAny_bind (wpAny_holding ?_)
  unfold unpackItems notIterableAtAll
  refine wpAny_bind (wpAny_bind (wpAny_specialOf ht.typeIs slot_tuple_iter.lookup (wpAny_pure ?_)))
  simp only [Bool.false_eq_true, if_false]
  refine wpAny_bind (wpAny_holding (iter_tuple ht ?_))
  refine wpAny_bind (wpAny_holding (draw_tuple hlt items.size 0 _ _ ⟨_, Heap.get?_push_size _ rfl, rfl, rfl⟩ (ht.push _) (by omega) fun h₁ hit₁ hs₁ => ?_))
  rw [List.drop_zero, List.take_of_length_le (show items.toList.length ≤ items.size by simp), if_neg (by simp)]
  have hot1 : HotAt A x1 h₁ := by
    obtain ⟨hh, o1, vs1, e1, d1, c1⟩ := hot
    exact ⟨hh, o1, vs1, hs₁.extBut x1 o1 (Nat.ne_of_lt (Heap.lt_size e1)) (Heap.get?_push_of_some _ e1), d1, c1⟩
  refine wpAny_bind (wpAny_holding (tuple_end hot1 hit₁ ((ht.push _).extBut hs₁.extBut hlt) (by simp) fun h₂ he₂ => ?_))
  simp only [Option.isSome_none, Bool.false_eq_true, if_false]
  exact wpAny_pure (h h₂ fun b o hb e => he₂ b o hb (hs₁.extBut b o hb (Heap.get?_push_of_some _ e)))
end
end SlH

set_option Elab.async false
set_option linter.all false
set_option maxRecDepth 100000
set_option maxHeartbeats 2000000
/-! own rules while an exception is handled: unpacking, a list comprehension over a list that stays -/
namespace Sl
open PySem PySem.Spec PyProof.Rows L2 HotX L2H
section
variable {X : Cx}
theorem pg_tupH {es : List Expr} {k0 : Nat} {t : TGs} {n : Nat} {pos : Pos} (hc : HotC X) (h : PGs X es t) (hn : (assignEach es X.env).length = n := by rfl) (hst : (assignEach es X.env).findIdx? (·.1) = none := by rfl) :
    PG X (.Tuple es k0 pos) (gTup X.K n t) := ⟨fun pins s σ H v u Q I r ⟨a, xs, e, hq, hl, hw⟩ => by
  subst e
  cases r
  obtain ⟨its, rv, ht, _⟩ := I.tuple hq
  obtain ⟨x1, hot⟩ := hc.at I
  have hz := rv.length
  exact SlH.unpack_hot hot ht (by rw [hn, ← hl, hz]; simp) hst fun h' hx => h.run pins { s with heap := h' } σ H xs _ Q (I.kept (t' := s.toks) fun b o e => hx b o (Nat.ne_of_lt (Heap.lt_size e)) e) (by simpa using rv) hw⟩
/-- [elt for target in a list if ..] with the list's members said ahead; W by the turn -/
def tLcH (K : PySem.W.Frag) (tl : TE) (g : TG) (tt : TT) (te : TE) (vs : List Nat) : TE := fun σ H Q => tl σ H fun x H1 => ∃ (a : Addr) (xs : List V), x = .ref a ∧ SqL K H1 a xs ∧ ∀ D, H1 D = none → ∃ W : Nat → Hp → Prop, W 0 (upd H1 D (.lst [])) ∧ (∀ i H2, W i H2 → SqL K H2 a xs) ∧
  (∀ (i : Nat) (H2 : Hp) (y : V), xs[i]? = some y → W i H2 → g y (wipe σ vs) H2 fun σ2 H3 => wipe σ2 vs = wipe σ vs ∧ tt σ2 H3 fun b H4 =>
    if b = true then te σ2 H4 fun z H5 => ∃ acc, H5 D = some (.lst acc) ∧ acc.length < sizeLine ∧ W (i + 1) (upd H5 D (.lst (acc ++ [z]))) else W (i + 1) H4) ∧
  ∀ H2, W xs.length H2 → Q (.ref D) H2
/-- the block's context, the handled one kept in view -/
abbrev hblk (X : Cx) (s : Shared) (H : Hp) (scope : Scope) (ce : Env) (fp : List Addr) (p : Addr × Obj) : Cx := (X.blk s H scope ce fp).tr [p] fun _ _ => False
theorem hblk_hot {s : Shared} {H : Hp} {scope : Scope} {ce : Env} {fp : List Addr} {p : Addr × Obj} (hot : Hot1 X.A p) : HotC (hblk X s H scope ce fp p) := ⟨p, hot, List.mem_singleton.mpr rfl⟩
theorem pe_lcH {elt tg iter : Expr} {ifs : List Expr} {scope : Scope} {own : List (Str × Nat)} {pos : Pos} {tl : TE} {g : TG} {tt : TT} {te : TE} {K : PySem.W.Frag} (hc : HotC X) (hN : X.N.Nodup) (hl : PE X iter tl) (ok : BlkOk X.N X.env.scope scope own)
    (hg : ∀ (s : Shared) (H : Hp) (C : Addr) (cl : List (Str × Addr)) (fp : List Addr) (p : Addr × Obj), Hot1 X.A p → PG (hblk X s H scope (compEnvC scope cl C X.env) fp p) tg g)
    (ht : ∀ (s : Shared) (H : Hp) (C : Addr) (cl : List (Str × Addr)) (fp : List Addr) (p : Addr × Obj), Hot1 X.A p → PTs (hblk X s H scope (compEnvC scope cl C X.env) fp p) ifs tt)
    (he : ∀ (s : Shared) (H : Hp) (C : Addr) (cl : List (Str × Addr)) (fp : List Addr) (p : Addr × Obj), Hot1 X.A p → PE (hblk X s H scope (compEnvC scope cl C X.env) fp p) elt te) (hs : ∀ x, foldedSetIterable iter X.env x = pure x := by intro _; rfl) (hK : X.K = K := by rfl) :
    PE X (.ListComp elt [⟨tg, iter, ifs, 0⟩] scope pos) (tLcH K tl g tt te (own.map (·.2))) := by
  subst hK
  refine ⟨fun pins s σ H Q I hw => ?_⟩
  obtain ⟨p, hot, hp⟩ := hc
  rw [eval_ListComp]
  have hfree : ∀ y ∈ scope.names, y.2 = .free → ∃ c, X.env.cells.lookup y.1 = some c := fun y hy e => I.ok.has _ (ok.free y hy e)
  refine wpAny_comprehension_free (use := none) rfl hs (closure_ok hfree) ok.kind (fun y hy e => by rw [ok.uniq y hy, e]) (thn (hl.run pins s σ H _ I hw) fun v s1 ⟨x, H1, I1, r1, a, xs, ex, hq, q⟩ => ?_)
  subst ex
  cases r1
  obtain ⟨its, rv, pl, hz⟩ := I1.list hq
  refine wpAny_pyIter_list pl.isList (wpAny_newObj_type (newEnv_comp ?_) (by show 0 ≤ sizeLine; decide))
  -- the iterator, the new list, the block
  generalize hit : s1.heap.objs.size = it
  generalize hs2 : ({ s1 with heap := s1.heap.push { cls := .type "list_iterator", data := .fields #[.ref a, .int 0 0] } } : Shared) = s2
  have ltI : it < s2.heap.objs.size := by
    rw [← hs2, ← hit, Heap.size_push]
    exact Nat.lt_succ_self _
  have ex2 : s2.heap.get? it = some { cls := .type "list_iterator", data := .fields #[.ref a, .int 0 0] } := by
    rw [← hs2, ← hit]
    exact Heap.get?_push_size _ rfl
  have I2 : Inv X pins σ H1 s2 := by
    rw [← hs2]
    exact I1.kept (t' := s1.toks) fun b o e => Heap.get?_push_of_some _ e
  have f2 : FpOk X pins H1 it := by
    rw [← hit]
    exact I1.fpOk (Nat.le_refl _) (I1.hok.fresh (Nat.le_refl _))
  generalize hD : s2.heap.objs.size = D at ltI
  have hDn : H1 D = none := I2.hok.fresh (Nat.le_of_eq hD)
  obtain ⟨W, w0, wq, step, last⟩ := q D hDn
  generalize hs3 : ({ s2 with heap := s2.heap.push { cls := .type "list", data := .seq ([] : List Value).toArray } } : Shared) = s3
  have h3 : s3.heap = s2.heap.push { cls := .type "list", data := .seq ([] : List Value).toArray } := by rw [← hs3]
  have I3 : Inv X pins σ (upd H1 D (.lst [])) s3 := by
    rw [← hs3]
    refine I2.laid (t' := s2.toks) (fun b o e => Heap.get?_push_of_some _ e) (Nat.le_of_eq hD) ⟨Nat.zero_le _, [], 0, .nil, ?_⟩
    rw [← hD]
    exact Heap.get?_push_size _ rfl
  have f3 : FpOk X pins (upd H1 D (.lst [])) it := ⟨by rw [upd_ne (Nat.ne_of_lt ltI)]; exact f2.1, f2.2⟩
  have ex3 : s3.heap.get? it = some { cls := .type "list_iterator", data := .fields #[.ref a, .int 0 0] } := by
    rw [h3]
    exact Heap.get?_push_of_some _ ex2
  have B4 := block_start (fp := [it]) I3 ok hN fun b hb => by
    have e : b = it := by simpa using hb
    subst e
    exact ⟨f3, Heap.lt_size ex3⟩
  have pg := hg s3 (upd H1 D (.lst [])) s3.heap.objs.size (cellsFrom (s3.heap.objs.size + 1) scope.names (cloFrom X.env.cells scope.names [])) [it] p hot
  have pt := ht s3 (upd H1 D (.lst [])) s3.heap.objs.size (cellsFrom (s3.heap.objs.size + 1) scope.names (cloFrom X.env.cells scope.names [])) [it] p hot
  have pe := he s3 (upd H1 D (.lst [])) s3.heap.objs.size (cellsFrom (s3.heap.objs.size + 1) scope.names (cloFrom X.env.cells scope.names [])) [it] p hot
  show codeAny _ _ (.compStart (.ListComp elt [⟨tg, iter, ifs, 0⟩] scope pos) 0 (.ref it) (.ref D) (compEnvC scope (cellsFrom (s3.heap.objs.size + 1) scope.names (cloFrom X.env.cells scope.names [])) s3.heap.objs.size X.env)) (compPost (model X.prog X.w) X.A X.xe none (EP X pins σ Q) (.ref D) s3.heap.objs.size) { s3 with heap := pushCells (s3.heap.push { cls := .type "dict", data := .dict #[] }) scope.names }
  generalize hce : compEnvC scope (cellsFrom (s3.heap.objs.size + 1) scope.names (cloFrom X.env.cells scope.names [])) s3.heap.objs.size X.env = ce at B4 pg pt pe ⊢
  have cL : ce.locals = s3.heap.objs.size := by subst hce; rfl
  generalize hH3 : upd H1 D (.lst []) = H3 at I3 B4 pg pt pe w0 f3
  generalize hs4 : ({ s3 with heap := pushCells (s3.heap.push { cls := .type "dict", data := .dict #[] }) scope.names } : Shared) = s4 at B4 ⊢
  have k4 : ∀ b o, s3.heap.get? b = some o → s4.heap.get? b = some o := fun b o e => by
    rw [← hs4]
    exact pushCells_keeps _ _ _ _ (Heap.get?_push_of_some _ e)
  have P3 := I3.pin p (List.mem_append_left _ hp)
  have pit : p.1 ≠ it := f3.2.2.2.2.2 p (List.mem_append_left _ hp)
  have I4 : Inv (hblk X s3 H3 scope ce [it] p) [] (wipe σ (own.map (·.2))) H3 s4 := ⟨B4.ok.toTry _ _, B4.os, B4.bare, B4.base, B4.loc, B4.cell, B4.free, B4.freeC, fun r hr => by
    obtain rfl : r = p := by simpa using (show r ∈ [p] ++ ([] : List (Addr × Obj)) from hr)
    exact ⟨k4 _ _ P3.1, P3.2.1, by show r.1 ≠ ce.locals; rw [cL]; exact Nat.ne_of_lt (Heap.lt_size P3.1), fun hm => (List.mem_cons.mp (I3.stkSub r.1 hm)).elim P3.2.2.1 P3.2.2.2.1, P3.2.2.2.2⟩, B4.hok, B4.len⟩
  have seen : ∀ {σ' : L2.St} {H' : Hp} {s' : Shared}, Inv (hblk X s3 H3 scope ce [it] p) [] σ' H' s' → H' it = none → FpOk (hblk X s3 H3 scope ce [it] p) [] H' it := fun {σ' H' s'} I' hn =>
    ⟨hn, (I'.ok.exf it (List.mem_singleton.mpr rfl)).1, I'.ok.exfs it (List.mem_singleton.mpr rfl), .inl (List.mem_singleton.mpr rfl), fun x c e => (I'.ok.exf it (List.mem_singleton.mpr rfl)).2 x c e, fun r hr => by
      obtain rfl : r = p := by simpa using (show r ∈ [p] ++ ([] : List (Addr × Obj)) from hr)
      exact pit⟩
  have hotc : HotC (hblk X s3 H3 scope ce [it] p) := hblk_hot hot
  have loop : codeAny (model X.prog X.w) X.A (.compLoop (.ListComp elt [⟨tg, iter, ifs, 0⟩] scope pos) 0 (.ref it) (.ref D) ce) (compPost (model X.prog X.w) X.A X.xe none (EP X pins σ Q) (.ref D) s3.heap.objs.size) s4 := by
    refine compLoop_any (fun n s' => ∃ i H', n = xs.length - i ∧ i ≤ xs.length ∧ Inv (hblk X s3 H3 scope ce [it] p) [] (wipe σ (own.map (·.2))) H' s' ∧ s'.heap.IsListIter it a i ∧ H' it = none ∧ W i H') ?_ xs.length ⟨0, H3, rfl, Nat.zero_le _, I4, ⟨_, k4 _ _ ex3, rfl, rfl⟩, f3.1, w0⟩
    rintro n s5 ⟨i, H5, rfl, le, I5, st5, n5, w5⟩
    obtain ⟨its5, rv5, pl5, _⟩ := I5.list (wq i H5 w5)
    obtain ⟨g0, g1, g2, g3, g4, g5⟩ := seen I5 n5
    by_cases lt : i < xs.length
    · have hx := List.getElem?_eq_getElem lt
      obtain ⟨u, hu, ru⟩ := rv5.get hx
      refine wpAny_pyNext_list_item st5 pl5.isList (x := u) (by simpa using hu) fun h' st' sb => ?_
      have I6 : Inv (hblk X s3 H3 scope ce [it] p) [] (wipe σ (own.map (·.2))) H5 { s5 with heap := h' } := I5.turned (t' := s5.toks) (fun b o hb e => (sb.2 b hb).trans e) g0 g1 g3 g4 g5
      obtain ⟨o, e6, c6, d6⟩ := id st'
      refine go_of (s := { s5 with heap := h' }) e6 c6 d6 (by decide) ?_
      have I7 := I6.pinned (fp := [it]) (fun b hb => by
        rw [List.mem_singleton.mp hb]
        exact seen I6 n5) (fun b hb => by
        rw [List.mem_singleton.mp hb]
        exact ⟨o, e6, fun v z => by rw [d6] at z; cases z⟩)
      refine thnF (pg.run _ _ _ H5 _ u _ I7 ru (step i H5 _ hx w5)) fun _ s8 ⟨σ8, H8, I8, hw8, q8⟩ => ?_
      refine thnF (pt.run _ s8 σ8 H8 _ I8 q8) fun b s9 ⟨H9, I9, q9⟩ => ?_
      have fin : ∀ {s' : Shared} {H' : Hp}, Inv (hblk X s3 H3 scope ce [it] p) ([] ++ pinsAt [it] h') σ8 H' s' → W (i + 1) H' → ∃ m, m < xs.length - i ∧ ∃ j H'', m = xs.length - j ∧ j ≤ xs.length ∧ Inv (hblk X s3 H3 scope ce [it] p) [] (wipe σ (own.map (·.2))) H'' s' ∧ s'.heap.IsListIter it a j ∧ H'' it = none ∧ W j H'' := fun {s' H'} I' w' => by
        have z := I'.pin (it, o) (List.mem_append_right _ (List.mem_append_right _ (mem_pinsAt (List.mem_singleton.mpr rfl) e6)))
        refine ⟨xs.length - (i + 1), by omega, i + 1, H', rfl, lt, (I'.unpinned (pins := [])).weak (by rw [← hw8, wipe_length]) (fun j v e => ?_), ⟨o, z.1, c6, d6⟩, z.2.1, w'⟩
        rw [← hw8] at e
        exact (wipe_some e).1
      cases b with
      | false =>
        simp only [Bool.false_eq_true, if_false] at q9 ⊢
        exact fin I9 q9
      | true =>
        simp only [if_true] at q9 ⊢
        refine thnF (pe.run _ s9 σ8 H9 _ I9 q9) fun z s10 ⟨yv, H10, I10, r10, acc, hD10, hz10, nx⟩ => ?_
        exact app_ok (X := hblk X s3 H3 scope ce [it] p) I10 hD10 hz10 r10 fun s11 I11 => fin I11 nx
    · have ei : i = xs.length := by omega
      subst ei
      obtain ⟨x1, h1⟩ := hotc.at I5
      refine SlH.list_end h1 st5 pl5.isList (by have := rv5.length; simp; omega) fun h' eb => ?_
      have I6 : Inv (hblk X s3 H3 scope ce [it] p) [] (wipe σ (own.map (·.2))) H5 { s5 with heap := h' } := I5.turned (t' := s5.toks) (fun b o hb e => eb b o hb e) g0 g1 g3 g4 g5
      have I7 : Inv X pins σ H5 { s5 with heap := h' } := I3.call' (ch := [it]) I6.os I6.base I6.hok I6.bare fun b hb => by
        rw [List.mem_singleton.mp hb]
        exact ⟨f3.2.2.2.1, f3.2.1, f3.2.2.2.2.1, f3.2.2.2.2.2⟩
      have nC : H5 s3.heap.objs.size = none := by
        have z : H5 ce.locals = none := I6.free
        rw [cL] at z
        exact z
      obtain ⟨m, hn, _⟩ := I6.loc
      have hn : Heap.Ns h' ce.locals m := hn
      rw [cL] at hn
      obtain ⟨j0, j1, j2, j3, j4, j5⟩ := I3.fpOk (Nat.le_refl _) nC
      exact ⟨m, hn, fun h'' sb => ⟨.ref D, H5, I7.turned (t' := s5.toks) (fun b o hb e => (sb.2 b hb).trans e) j0 j1 j3 j4 j5, rfl, last H5 w5⟩⟩
  exact codeAny_compStart_list loop (wpAny_pyIter_listiter ⟨_, k4 _ _ ex3, rfl, rfl⟩ loop)
end
end Sl

set_option Elab.async false
set_option linter.all false
set_option maxRecDepth 100000
set_option maxHeartbeats 2000000
/-! own rules: a def that is handed the exception which is handled, its calls, isinstance in it -/
namespace Sl
open PySem PySem.Spec PyProof.Rows L2 HotX L2H
/-- a def's promise that may speak of the exception in hand -/
def FnP (P : Program) (w : World) (K : PySem.W.Frag) (mg : Str → Option Value) (base : Heap) (CX : CXT) (k : Nat) (f : Addr) (fd : FuncData) (ps : List Str) (sp : Addr × Obj → Sp) : Prop :=
  (∀ p vs H Q E, sp p vs H Q E → vs.length = ps.length) ∧ ∀ (p : Addr × Obj) (A : Around) (outer : List Env) (s : Shared) (H : Hp) (args : Args) (us : List Value) (vs : List V) (Q : VK) (E : XK), Hot1 A p → RoomH k A → PinOk outer H s p → Env0 P w K mg base A outer s H → BindsTo s fd args (ps.zip us) → Vals vs us → sp p vs H Q E →
    codeAny (model P w) A (.call (.ref f) args) (CR CX outer P w H s Q E) s
theorem fnP_of {CX : CXT} {P : Program} {w : World} {K : PySem.W.Frag} {mg : Str → Option Value} {base : Heap} {x qual : Str} {st : Stmt} {f : Addr} {fd : FuncData} {N ps : List Str} {k : Nat} {sp : Addr × Obj → Sp} (F : Fun K x qual st f fd) (S : FnScope N ps (defScope st))
    (len : ∀ p vs H Q E, sp p vs H Q E → vs.length = ps.length)
    (body : ∀ (p : Addr × Obj) (cdv : Value) (A : Around) (outer : List Env) (s : Shared) (H : Hp) (vs : List V) (Q : VK) (E : XK), Hot1 A p → RoomH k (A.deeper (envOfC qual (defScope st) s.heap.objs.size f cdv)) → sp p vs H Q E →
      ∃ t, PSs (cxH CX P w K mg base N qual (defScope st) f cdv A outer s H E p) (defBody st) t ∧ t { nx := fun _ H' => Q .non H', rt := Q } (L2.start N vs) H) : FnP P w K mg base CX (k + 1) f fd ps sp := by
  obtain ⟨oc, od, kV, doc, pm, an, cdv, ct, osl, rfl, lk, hcd⟩ := F.ex
  refine ⟨len, fun p A outer s H args us vs Q E hot hr pin e0 hb r hsp => ?_⟩
  have stays : ∀ b o, base.get? b = some o → s.heap.get? b = some o := fun b o e => (e0.bs b o e).1
  refine codeAny_call_function hr.depth (e0.mod.kin.keeps stays _ _ lk) rfl S.co S.gen rfl (PySem.W.codeRec_of (e0.mod.kin.keeps stays) hcd) (hb _ _ _ _ (wpAny_newFunctionEnv_cells S.kind (fun y hy => ?_) fun env he s1 y => ?_))
  · obtain ⟨n, v⟩ := y
    exact (S.par n (List.of_mem_zip hy).1).imp id fun q => ⟨q, PySem.W.cellsFrom_some _ _ _ (.inl q)⟩
  subst he
  refine ⟨(e0.mod.nolimit.keeps stays).keeps y.toInCall.keep, codeAny_func ?_⟩
  obtain ⟨t, ht, hq⟩ := body p cdv A outer s H vs Q E hot (hr.deeper _) hsp
  have I := inv_startH (CX := CX) (qual := qual) (f := f) (cd := cdv) (E := E) S pin e0 (len _ _ _ _ _ hsp) r y
  refine wpAny_mono (ht.run [] s1 _ H _ I hq) (fun fl s' hs => ?_) fun e s' hs => hs
  cases fl with
  | ret u =>
    obtain ⟨v, σ', H', J, rv, q⟩ := hs
    exact ⟨v, H', J.os, J.bare, J.base, J.hok, rv, q⟩
  | next =>
    obtain ⟨σ', H', J, q⟩ := hs
    exact ⟨.non, H', J.os, J.bare, J.base, J.hok, rfl, q⟩
  | brk => exact hs.elim fun _ z => z.elim fun _ z => z.2.elim
  | cont => exact hs.elim fun _ z => z.elim fun _ z => z.2.elim
/-- f(e, ..) while p is handled -/
theorem pe_callP {X : Cx} {CX : CXT} {k : Nat} {f : Addr} {fd : FuncData} {ps : List Str} {sp : Addr × Obj → Sp} {sp' : List V → Hp → VK → Prop} {x : Str} {q pos : Pos} {e : Expr} {es : List Expr} {t : TA} {p : Addr × Obj} (F : FnP X.prog X.w X.K X.mg X.base CX k f fd ps sp) (hr : RoomH k X.A) (hot : Hot1 X.A p) (hp : p ∈ X.pn) (hg : Gl X x) (hm : X.mg x = some (.ref f)) (hk : PySem.W.keepIn X.K (.ref f) = true) (hb : Binds X.K fd ps []) (hx : Passes CX X E0) (imp : ∀ vs H Q, sp' vs H Q → sp p vs H Q E0)
    (ha : PA X (e :: es) t) (hdb : (x == ("__debug__" : Str)) = false := by decide) (he : starEach (e :: es) X.env = (false, eval e X.env) :: starEach es X.env := by rfl) (hpl : (backTo pos (starEach es X.env)).any (·.1) = false := by rfl) :
    PE X (.Call (.Name x q) (e :: es) [] pos) (fun σ H Q => t σ H fun vs H1 => sp' vs H1 Q) := by
  refine ⟨fun pins s σ H Q I h => wpAny_Call_Name_kw (ld_glob I hg hm ?_ hdb)⟩
  refine PySem.W.callWith_K (h₀ := X.base) I.ok.mod.kin hk (thn (ha.run pos pins s σ H _ I h) fun us s1 ⟨vs, H1, I1, r, q0⟩ => ⟨I1.kIn, ?_⟩) he hpl
  have q1 := imp _ _ _ q0
  have b := hb s1 us I1.kIn (by rw [List.append_nil, ← r.length]; exact F.1 _ _ _ _ _ q1)
  rw [List.append_nil] at b
  have P1 := I1.pin p (List.mem_append_left _ hp)
  have pin : PinOk X.stack H1 s1 p := ⟨P1.1, P1.2.1, fun hm => (List.mem_cons.mp (I1.stkSub p.1 hm)).elim P1.2.2.1 P1.2.2.2.1, P1.2.2.2.2⟩
  refine wpAny_call (codeAny_mono (F.2 p X.A X.stack s1 H1 ⟨us, []⟩ us vs Q E0 hot hr pin I1.env0 b r q1) fun rr s' hq => ?_)
  cases rr with
  | error e => exact hx pins σ H1 s1 e s' I1 hq
  | ok fl =>
    cases fl with
    | ret u => exact I1.after hq
    | next => exact False.elim hq
    | brk => exact False.elim hq
    | cont => exact False.elim hq
/-- isinstance(e, c), e the exception that is kept in view -/
theorem call_isP {X : Cx} {K : PySem.W.Frag} {a D : Addr} {oe : Obj} (C : ExcC K D) (hz : Zc (.ref D) none oe) (hf : ∃ vs, oe.data = .fields vs) (hp : (a, oe) ∈ X.pn) (hK : X.K = K := by rfl) : CallR X (.builtin "isinstance") (rIsE K D a) := by
  subst hK
  intro pins s σ H xs us Q I r ⟨c, cv, b, exs, hcv, e, q⟩
  subst exs
  obtain ⟨u0, u1, rfl, rx, rt⟩ : ∃ u0 u1, us = [u0, u1] ∧ RelV (.ref a) u0 ∧ RelV c u1 := by
    cases r with
    | cons rx rr =>
      cases rr with
      | cons rt rr =>
        cases rr
        exact ⟨_, _, rfl, rx, rt⟩
  cases rx
  obtain rfl := hcv _ rt
  obtain ⟨vs, hv⟩ := hf
  have J : PySem.W.InstAt s.heap a oe D none := by
    obtain ⟨oc, od, oda, osl⟩ := oe
    obtain ⟨h1, h2⟩ := hz
    dsimp only at h1 h2 hv
    subst h1 h2 hv
    exact ⟨(I.pin _ (List.mem_append_left _ hp)).1, rfl, rfl, trivial⟩
  exact PySem.W.kia_one (PySem.W.handS_kitx_exc C.hg C.hk C.hs C.hd C.ha C.hn C.ht C.hm) I.kIn J e (fun z => nomatch z) fun tk => ⟨.bl b, H, I.kept (t' := tk) fun _ _ z => z, rfl, q⟩
end Sl

set_option Elab.async false
set_option linter.all false
set_option maxRecDepth 100000
set_option maxHeartbeats 2000000
/-! what is known of the program's own exception classes -/
namespace Sl
open PySem PySem.Spec PyProof.Rows L2
abbrev valTail : List Value := [.type "ValueError", .type "Exception", .type "BaseException", .type "object"]
/-- a class of refusals at C, below the class at L -/
structure ErrAt (K : PySem.W.Frag) (mg : Str → Option Value) (x : Str) (L C : Addr) : Prop where
  g : mg x = some (.ref C)
  e : PySem.W.excIn K C valTail "ValueError.__new__" = true
  k : PySem.W.keepIn K (.ref C) = true
  b : PySem.W.subIn K (.ref C) (.type "BaseException") = some true
  t : PySem.W.typeIn K (.ref C) = some (.type "type")
  l : PySem.W.subIn K (.ref C) (.ref L) = some true
  v : PySem.W.kitOne K (.ref C) (.type "ValueError") = some true
  c : ExcC K C
theorem kit_sub {K : PySem.W.Frag} {C D : Addr} (hd : PySem.W.hasDictIn K C = true) (ht : PySem.W.typeIn K (.ref C) = some (.type "type")) (self : PySem.W.subIn K (.ref C) (.ref C) = some true) (hs : PySem.W.subIn K (.ref D) (.ref C) = some false) : PySem.W.kitOne K (.ref D) (.ref C) = some false := by
  have ne : D ≠ C := fun e => by
    rw [e, self] at hs
    cases hs
  obtain ⟨cd, hc, _⟩ := PySem.W.any_some hd
  have e1 : ((PySem.W.clsIn K C).isSome && PySem.W.typeIn K (.ref C) == some (.type "type")) = true := by rw [hc, ht] <;> rfl
  unfold PySem.W.kitOne PySem.W.kitCls
  rw [if_neg (by simpa using ne)]
  show (if ((PySem.W.clsIn K C).isSome && PySem.W.typeIn K (.ref C) == some (.type "type")) = true then PySem.W.subIn K (.ref D) (.ref C) else none) = some false
  rw [if_pos e1]
  exact hs
theorem kit_val {K : PySem.W.Frag} {D : Addr} (hs : PySem.W.subIn K (.ref D) (.type "ValueError") = some true) : PySem.W.kitOne K (.ref D) (.type "ValueError") = some true := by
  unfold PySem.W.kitOne PySem.W.kitCls
  rw [if_neg (show ¬ ((Value.ref D == Value.type "ValueError") = true) from Bool.false_ne_true)]
  show (if PySem.W.kitMeta "ValueError" = true then PySem.W.subIn K (.ref D) (.type "ValueError") else none) = some true
  rw [if_pos (by decide +kernel)]
  exact hs
/-- which of the five a class is -/
inductive Er | lane | ways | stand | move | place
  deriving DecidableEq
def Er.at_ (cl cw cs cm cp : Addr) : Er → Addr
  | .lane => cl
  | .ways => cw
  | .stand => cs
  | .move => cm
  | .place => cp
def Er.cls : Er → Str
  | .lane => "BadLane"
  | .ways => "BadWays"
  | .stand => "BadStand"
  | .move => "NoMove"
  | .place => "NoPlace"
def Er.word : Er → Str
  | .lane => "lane"
  | .ways => "ways"
  | .stand => "stand"
  | .move => "move"
  | .place => "place"
structure Errs (K : PySem.W.Frag) (mg : Str → Option Value) (L : Addr) (C : Er → Addr) : Prop where
  gL : mg "LaneError" = some (.ref L)
  hL : PySem.W.hasDictIn K L = true
  tL : PySem.W.typeIn K (.ref L) = some (.type "type")
  bL : PySem.W.subIn K (.ref L) (.type "BaseException") = some true
  at_ : ∀ x, ErrAt K mg x.cls L (C x)
  ne : ∀ x y, x ≠ y → PySem.W.kitOne K (.ref (C x)) (.ref (C y)) = some false
theorem Errs.is {K : PySem.W.Frag} {mg : Str → Option Value} {L : Addr} {C : Er → Addr} (E : Errs K mg L C) (x y : Er) : PySem.W.kitOne K (.ref (C x)) (.ref (C y)) = some (decide (x = y)) := by
  by_cases h : x = y
  · subst h
    rw [decide_eq_true rfl]
    unfold PySem.W.kitOne
    rw [if_pos (by simp)]
  · rw [decide_eq_false h]
    exact E.ne x y h
theorem Errs.caught {K : PySem.W.Frag} {mg : Str → Option Value} {L : Addr} {C : Er → Addr} (E : Errs K mg L C) (x : Er) : PySem.W.exmOne K (.ref (C x)) (.ref L) = some true := PySem.W.exm_ref E.bL E.hL E.tL (E.at_ x).l
end Sl

set_option Elab.async false
set_option linter.all false
set_option maxRecDepth 100000
set_option maxHeartbeats 2000000
/-! defs by name that may raise where nothing is handled -/
namespace Sl
open PySem PySem.Spec PyProof.Rows L2
variable {P : Program} {w : World} {K : PySem.W.Frag} {mg : Str → Option Value} {base : Heap}
structure DefOkR (P : Program) (w : World) (K : PySem.W.Frag) (mg : Str → Option Value) (base : Heap) (k : Nat) (x : Str) (ps : List Str) (sp : Sp) : Prop where
  ex : ∃ f fd, FnOk P w K mg base (L2N.CX P w) k f fd ps sp ∧ mg x = some (.ref f) ∧ PySem.W.keepIn K (.ref f) = true ∧ Binds K fd ps []
theorem FnAt.okR {x : Str} {st : Stmt} {N ps : List Str} {k : Nat} {sp : Sp} (F : FnAt K mg x st ps) (S : FnScope N ps (defScope st)) (len : ∀ vs H Q E, sp vs H Q E → vs.length = ps.length)
    (hbody : ∀ (f : Addr) (cdv : Value) (A : Around) (outer : List Env) (s : Shared) (H : Hp) (vs : List V) (Q : VK) (E : XK), Room k (A.deeper (envOfC x (defScope st) s.heap.objs.size f cdv)) → sp vs H Q E →
      ∃ t, PSs (cxOf (L2N.CX P w) P w K mg base N x (defScope st) f cdv A outer s H E) (defBody st) t ∧ t { nx := fun _ H' => Q .non H', rt := Q } (start N vs) H) : DefOkR P w K mg base (k + 1) x ps sp := by
  obtain ⟨f, fd, F1, g, b⟩ := F.ex
  have kp := F1.kp
  obtain ⟨oc, od, kV, doc, pm, an, cdv, ct, osl, rfl, lk, hcd⟩ := F1.ex
  exact ⟨f, _, fn_of lk hcd S len fun A outer s H vs Q E hr h => hbody f cdv A outer s H vs Q E hr h, g, kp, b⟩
/-- a call in a try's body -/
theorem pe_defR {X : Cx} {W : WX} {x : Str} {k : Nat} {ps : List Str} {sp : Sp} {e : Expr} {es : List Expr} {t : TA} {p pos : Pos} (D : DefOkR X.prog X.w X.K X.mg X.base k x ps sp) (tk : L2N.Takes X W) (hr : Room k X.A) (ha : PA X (e :: es) t)
    (hg : Gl X x := by rfl) (hdb : (x == ("__debug__" : Str)) = false := by decide) (he : starEach (e :: es) X.env = (false, eval e X.env) :: starEach es X.env := by rfl) (hpl : (backTo pos (starEach es X.env)).any (·.1) = false := by rfl) :
    PE X (.Call (.Name x p) (e :: es) [] pos) (tCallS sp (WE W) t) := by
  obtain ⟨f, fd, F, g, kp, b⟩ := D.ex
  exact pe_callS F hr hg g kp b (fun σ => L2N.passAt tk σ) ha hdb he hpl
theorem passN {X : Cx} : Passes (L2N.CX X.prog X.w) X E0 := fun _ _ _ _ _ _ _ h => by
  obtain ⟨_, _, _, _, _, _, _, _, _, _, _, _, z⟩ := h
  exact z.elim
/-- a call that raises nothing -/
theorem pe_defQ {X : Cx} {x : Str} {k : Nat} {ps : List Str} {sp : Sp} {e : Expr} {es : List Expr} {t : TA} {p pos : Pos} (D : DefOkR X.prog X.w X.K X.mg X.base k x ps sp) (hr : Room k X.A) (ha : PA X (e :: es) t)
    (hg : Gl X x := by rfl) (hdb : (x == ("__debug__" : Str)) = false := by decide) (he : starEach (e :: es) X.env = (false, eval e X.env) :: starEach es X.env := by rfl) (hpl : (backTo pos (starEach es X.env)).any (·.1) = false := by rfl) :
    PE X (.Call (.Name x p) (e :: es) [] pos) (tCall sp [] E0 t) := by
  obtain ⟨f, fd, F, g, kp, b⟩ := D.ex
  exact pe_call F hr hg g kp b .nil passN ha hdb he hpl
/-- raise C('..') -/
theorem ps_err {X : Cx} {W : WX} {x m : Str} {L C : Addr} {j : Nat} {p p2 pos pos' : Pos} (er : ErrAt X.K X.mg x L C) (hc : X.calm = true) (tk : L2N.Takes X W) (hg : Gl X x := by rfl) (hdb : (x == ("__debug__" : Str)) = false := by decide) :
    PS X (.Raise (some (.Call (.Name x p) [.Constant (.str m) j p2] [] pos)) none pos') (fun _ σ H => W (.ref C) none σ H) :=
  L2N.ps_raise hc tk (L2N.pmk_own PySem.F.excBase_ValueError er.e er.g er.k (raises_own er.b er.t) hg hdb)
theorem takesN0 {X : Cx} : L2N.Takes X (fun _ _ _ _ => False) := fun _ _ x => by
  obtain ⟨_, _, _, _, _, _, _, _, _, _, _, _, _, _, _, _, z⟩ := x
  exact z.elim
/-- the error that a suite holds is the one in hand -/
theorem suite_hot {X : Cx} {a : Addr} {oe : Obj} {cls : Value} {d : Option Addr} {pn : List (Addr × Obj)} (hz : L2N.Zn cls d oe) (hf : ∃ vs, oe.data = .fields vs) : L2H.Hot1 (X.suite a ((a, oe) :: pn)).A (a, oe) := by
  obtain ⟨vs, e⟩ := hf
  exact ⟨rfl, vs, e, hz.2.2 vs e⟩
end Sl

set_option Elab.async false
set_option linter.all false
set_option maxRecDepth 100000
set_option maxHeartbeats 2000000
/-! defs by any promise; a call of what an expression gives; an object made by an __init__ that may raise -/
namespace Sl
open PySem PySem.Spec PyProof.Rows L2
section
variable {P : Program} {w : World} {K : PySem.W.Frag} {mg : Str → Option Value} {base : Heap}
/-- the def x keeps the promise, and it may raise -/
structure DefR (P : Program) (w : World) (K : PySem.W.Frag) (mg : Str → Option Value) (base : Heap) (k : Nat) (x : Str) (sp : Sp) : Prop where
  ex : ∃ f, FnR P w K mg base (L2N.CX P w) k f sp ∧ mg x = some (.ref f) ∧ PySem.W.keepIn K (.ref f) = true
theorem fnR_of {CX : CXT} {k : Nat} {f : Addr} {fd : FuncData} {ps : List Str} {sp : Sp} (F : FnOk P w K mg base CX k f fd ps sp) (b : Binds K fd ps []) (lift : ∀ outer H s E e s', CX outer H s E e s' → L2N.CX P w outer H s E e s') : FnR P w K mg base (L2N.CX P w) k f sp := fun A outer s H us vs Q E hr e0 r h => by
  have hl : us.length = ps.length := by rw [← r.length]; exact F.len _ _ _ _ h
  have z := b s us (e0.mod.kin.keeps fun b o e => (e0.bs b o e).1) (by rw [List.append_nil]; exact hl)
  rw [List.append_nil] at z
  refine codeAny_mono (F.run A outer s H ⟨us, []⟩ us vs Q E hr e0 z r h) fun res s' hq => ?_
  cases res with
  | error e => exact lift _ _ _ _ _ _ hq
  | ok fl => cases fl <;> exact hq
theorem DefOk.r {k : Nat} {x : Str} {ps : List Str} {sp : Sp} (D : DefOk P w K mg base k x ps sp) : DefR P w K mg base k x sp := by
  obtain ⟨f, fd, F, g, kp, b⟩ := D.ex
  exact ⟨f, fnR_of F b fun _ _ _ _ _ _ h => h.elim, g, kp⟩
theorem DefOkR.r {k : Nat} {x : Str} {ps : List Str} {sp : Sp} (D : DefOkR P w K mg base k x ps sp) : DefR P w K mg base k x sp := by
  obtain ⟨f, fd, F, g, kp, b⟩ := D.ex
  exact ⟨f, fnR_of F b fun _ _ _ _ _ _ h => h, g, kp⟩
theorem DefR.imp {k : Nat} {x : Str} {sp sp' : Sp} (D : DefR P w K mg base k x sp) (h : ∀ vs H Q E, sp' vs H Q E → sp vs H Q E) : DefR P w K mg base k x sp' := by
  obtain ⟨f, F, g, kp⟩ := D.ex
  exact ⟨f, F.imp h, g, kp⟩
theorem DefR.or {k k1 k2 : Nat} {x : Str} {sp1 sp2 : Sp} (D1 : DefR P w K mg base k1 x sp1) (D2 : DefR P w K mg base k2 x sp2) (h1 : k1 ≤ k) (h2 : k2 ≤ k) : DefR P w K mg base k x (fun vs H Q E => sp1 vs H Q E ∨ sp2 vs H Q E) := by
  obtain ⟨f1, F1, g1, kp1⟩ := D1.ex
  obtain ⟨f2, F2, g2, _⟩ := D2.ex
  have e : f1 = f2 := by
    rw [g1] at g2
    exact Value.ref.inj (Option.some.inj g2)
  subst e
  exact ⟨f1, fun A outer s H us vs Q E hr e0 r h => h.elim (F1 A outer s H us vs Q E (hr.mono h1) e0 r) (F2 A outer s H us vs Q E (hr.mono h2) e0 r), g1, kp1⟩
end
section
variable {X : Cx} {W : WX}
theorem run_fnRS {pins : List (Addr × Obj)} {σ : L2.St} {H : Hp} {s : Shared} {CX : CXT} {k : Nat} {f : Addr} {sp : Sp} {E : L2.St → XK} {Q : VK} {us : List Value} {vs : List V} (F : FnR X.prog X.w X.K X.mg X.base CX k f sp) (hr : Room k X.A) (hx : PassesAt CX X σ (E σ)) (I : Inv X pins σ H s) (r : Vals vs us) (h : sp vs H Q (E σ)) :
    wpAny (model X.prog X.w) X.A (call (.ref f) us) (EP X pins σ Q) X.xe s := by
  refine wpAny_call (codeAny_mono (F X.A X.stack s H us vs Q (E σ) hr I.env0 r h) fun r s' hq => ?_)
  cases r with
  | error e => exact hx pins H s e s' I hq
  | ok fl =>
    cases fl with
    | ret u => exact I.after hq
    | next => exact False.elim hq
    | brk => exact False.elim hq
    | cont => exact False.elim hq
/-- f(e, ..), f may raise -/
theorem pe_rr {x : Str} {k : Nat} {sp : Sp} {e : Expr} {es : List Expr} {t : TA} {p pos : Pos} (D : DefR X.prog X.w X.K X.mg X.base k x sp) (tk : L2N.Takes X W) (hr : Room k X.A) (ha : PA X (e :: es) t)
    (hg : Gl X x := by rfl) (hdb : (x == ("__debug__" : Str)) = false := by decide) (he : starEach (e :: es) X.env = (false, eval e X.env) :: starEach es X.env := by rfl) (hpl : (backTo pos (starEach es X.env)).any (·.1) = false := by rfl) :
    PE X (.Call (.Name x p) (e :: es) [] pos) (tCallS sp (WE W) t) := by
  obtain ⟨f, F, g, kp⟩ := D.ex
  refine ⟨fun pins s σ H Q I h => wpAny_Call_Name_kw (ld_glob I hg g ?_ hdb)⟩
  refine PySem.W.callWith_K (h₀ := X.base) I.ok.mod.kin kp (thn (ha.run pos pins s σ H _ I h) fun us s1 ⟨vs, H1, I1, r, q⟩ => ⟨I1.kIn, ?_⟩) he hpl
  exact run_fnRS F hr (L2N.passAt tk σ) I1 r q
/-- fe(e, ..), fe gives one of the functions that S has promises of -/
theorem pe_callF {fe e : Expr} {es : List Expr} {tf : TE} {t : TA} {pos : Pos} {k : Nat} {S : Addr → Sp → Prop} (tk : L2N.Takes X W) (hS : ∀ f sp, S f sp → FnR X.prog X.w X.K X.mg X.base (L2N.CX X.prog X.w) k f sp ∧ PySem.W.keepIn X.K (.ref f) = true) (hr : Room k X.A) (hf : PE X fe tf) (ha : PA X (e :: es) t)
    (ht : eval (.Call fe (e :: es) [] pos) X.env = (do callWith pos (← eval fe X.env) [] (backTo pos (starEach (e :: es) X.env)) (backToKw pos (keywordEach [] X.env))) := by rfl)
    (he : starEach (e :: es) X.env = (false, eval e X.env) :: starEach es X.env := by rfl) (hpl : (backTo pos (starEach es X.env)).any (·.1) = false := by rfl) :
    PE X (.Call fe (e :: es) [] pos) (fun σ H Q => tf σ H fun y H1 => ∃ f sp, y = .ref f ∧ S f sp ∧ t σ H1 fun vs H2 => sp vs H2 Q (WE W σ)) := by
  refine ⟨fun pins s σ H Q I h => ?_⟩
  refine Call_ (thn (hf.run pins s σ H _ I h) fun u s1 ⟨y, H1, I1, ry, f, sp, ey, hs, q⟩ => ?_) ht
  subst ey
  obtain rfl : u = Value.ref f := ry
  obtain ⟨F, kp⟩ := hS f sp hs
  refine PySem.W.callWith_K (h₀ := X.base) I1.ok.mod.kin kp (thn (ha.run pos pins s1 σ H1 _ I1 q) fun us s2 ⟨vs, H2, I2, r, q2⟩ => ⟨I2.kIn, ?_⟩) he hpl
  exact run_fnRS (E := WE W) F hr (L2N.passAt tk σ) I2 r q2
/-- what stands behind is never come to -/
theorem pss_never {ss : List Stmt} : PSs X ss (fun _ _ _ => False) := ⟨fun _ _ _ _ _ _ h => h.elim⟩
/-- C(e, ..), its __init__ may raise -/
theorem pe_makeS {x : Str} {k : Nat} {f C : Addr} {fd : FuncData} {ps : List Str} {sp : Sp} {e : Expr} {es : List Expr} {t : TA} {p pos : Pos} (tk : L2N.Takes X W) (M : Mk X.K C f) (F : FnOk X.prog X.w X.K X.mg X.base (L2N.CX X.prog X.w) k f fd ps sp) (hr : Room (k + 1) X.A) (hm : X.mg x = some (.ref C)) (hb : Binds X.K fd ps [])
    (ha : PA X (e :: es) t) (hg : Gl X x := by rfl) (hdb : (x == ("__debug__" : Str)) = false := by decide) (he : starEach (e :: es) X.env = (false, eval e X.env) :: starEach es X.env := by rfl) (hpl : (backTo pos (starEach es X.env)).any (·.1) = false := by rfl) :
    PE X (.Call (.Name x p) (e :: es) [] pos) (fun σ H Q => t σ H fun vs H1 => ∀ (x dx : Addr), H1 x = none → H1 dx = none → dx ≠ x → sp (.ref x :: vs) (upd (upd H1 dx (.own x)) x (.ins C dx [])) (fun v H2 => v = .non ∧ Q (.ref x) H2) (WE W σ)) := by
  refine ⟨fun pins s σ H Q I h => ?_⟩
  refine wpAny_Call_Name_kw (ld_glob I hg hm ?_ hdb)
  refine PySem.W.callWith_K (h₀ := X.base) I.ok.mod.kin M.kp (thn (ha.run pos pins s σ H _ I h) fun us s1 ⟨vs, H1, I1, r, q⟩ => ⟨I1.kIn, ?_⟩) he hpl
  have hq := q (s1.heap.objs.size + 1) s1.heap.objs.size (I1.hok.fresh (Nat.le_succ _)) (I1.hok.fresh (Nat.le_refl _)) (Nat.ne_of_lt (Nat.lt_succ_self _))
  have I2 := Inv.made (C := C) I1
  have r2 : Vals (V.ref (s1.heap.objs.size + 1) :: vs) (Value.ref (s1.heap.objs.size + 1) :: us) := .cons rfl r
  have hl : (Value.ref (s1.heap.objs.size + 1) :: us ++ []).length = ps.length := by
    have e := r2.length
    rw [F.len _ _ _ _ hq] at e
    rw [List.append_nil]
    exact e.symm
  have b := hb _ (Value.ref (s1.heap.objs.size + 1) :: us) I2.kIn hl
  rw [List.append_nil] at b
  refine wpAny_call (make_map (f := f) I1.kIn M.makes M.init (beq_iff_eq.mp M.fn) (codeAny_mono (F.run _ X.stack _ _ ⟨Value.ref (s1.heap.objs.size + 1) :: us, []⟩ (Value.ref (s1.heap.objs.size + 1) :: us) _ _ (WE W σ) (hr.make C us [])
    (I2.env0.make C us []) b r2 hq) fun r s' hq' => ?_))
  cases r with
  | error e => exact L2N.passAt tk σ pins _ _ e s' I2 hq'
  | ok fl =>
    cases fl with
    | ret u =>
      obtain ⟨v, H', I3, rv, ev, q3⟩ := I2.after hq'
      subst ev
      exact ⟨rv, ⟨V.ref (s1.heap.objs.size + 1), H', I3, rfl, q3⟩⟩
    | next => exact False.elim hq'
    | brk => exact False.elim hq'
    | cont => exact False.elim hq'
end
end Sl

set_option Elab.async false
set_option linter.all false
set_option maxRecDepth 100000
set_option maxHeartbeats 2000000
/-! methods by any promise; o[i] op= e of a list; what is kept where some things are written -/
namespace Sl
open PySem PySem.Spec PyProof.Rows L2
section
variable {P : Program} {w : World} {K : PySem.W.Frag} {mg : Str → Option Value} {base : Heap}
/-- the class's method m keeps the promise, and it may raise -/
structure MetR (P : Program) (w : World) (K : PySem.W.Frag) (mg : Str → Option Value) (base : Heap) (C : Addr) (k : Nat) (m : Str) (sp : Sp) : Prop where
  ex : ∃ f, FnR P w K mg base (L2N.CX P w) k f sp ∧ Meth K C m f
theorem fun_okR {x qual : Str} {st : Stmt} {f : Addr} {fd : FuncData} {N ps : List Str} {k : Nat} {sp : Sp} (F : Fun K x qual st f fd) (S : FnScope N ps (defScope st)) (len : ∀ vs H Q E, sp vs H Q E → vs.length = ps.length)
    (hbody : ∀ (cdv : Value) (A : Around) (outer : List Env) (s : Shared) (H : Hp) (vs : List V) (Q : VK) (E : XK), Room k (A.deeper (envOfC qual (defScope st) s.heap.objs.size f cdv)) → sp vs H Q E →
      ∃ t, PSs (cxOf (L2N.CX P w) P w K mg base N qual (defScope st) f cdv A outer s H E) (defBody st) t ∧ t { nx := fun _ H' => Q .non H', rt := Q } (start N vs) H) : FnOk P w K mg base (L2N.CX P w) (k + 1) f fd ps sp := by
  obtain ⟨oc, od, kV, doc, pm, an, cdv, ct, osl, rfl, lk, hcd⟩ := F.ex
  exact fn_of lk hcd S len fun A outer s H vs Q E hr h => hbody cdv A outer s H vs Q E hr h
theorem met_of {x qual : Str} {st : Stmt} {C : Addr} {N ps : List Str} {k : Nat} {sp : Sp} (M : ∃ f fd, Fun K x qual st f fd ∧ (PySem.W.findIn K (.ref C) x = some (some (.ref f)) ∧ PySem.W.isFn K (.ref f) = true ∧ PySem.W.keepIn K (.ref f) = true) ∧ Binds K fd ps []) (S : FnScope N ps (defScope st)) (len : ∀ vs H Q E, sp vs H Q E → vs.length = ps.length)
    (hbody : ∀ (f : Addr) (cdv : Value) (A : Around) (outer : List Env) (s : Shared) (H : Hp) (vs : List V) (Q : VK) (E : XK), Room k (A.deeper (envOfC qual (defScope st) s.heap.objs.size f cdv)) → sp vs H Q E →
      ∃ t, PSs (cxOf (L2N.CX P w) P w K mg base N qual (defScope st) f cdv A outer s H E) (defBody st) t ∧ t { nx := fun _ H' => Q .non H', rt := Q } (start N vs) H) : MetR P w K mg base C (k + 1) x sp := by
  obtain ⟨f, fd, F, ⟨h1, h2, h3⟩, b⟩ := M
  exact ⟨f, fnR_of (fun_okR F S len fun cdv A outer s H vs Q E hr h => hbody f cdv A outer s H vs Q E hr h) b fun _ _ _ _ _ _ h => h, ⟨h1, h2, h3⟩⟩
end
section
variable {X : Cx} {W : WX}
theorem run_fnRQ {pins : List (Addr × Obj)} {σ : L2.St} {H : Hp} {s : Shared} {k : Nat} {f : Addr} {sp : Sp} {Q : VK} {us : List Value} {vs : List V} (F : FnR X.prog X.w X.K X.mg X.base (L2N.CX X.prog X.w) k f sp) (hr : Room k X.A) (I : Inv X pins σ H s) (r : Vals vs us) (h : sp vs H Q E0) :
    wpAny (model X.prog X.w) X.A (call (.ref f) us) (EP X pins σ Q) X.xe s := wpAny_call (run_fnR F hr passN I r h)
/-- o.m(e, ..) that raises nothing -/
theorem pe_metQ {C : Addr} {k : Nat} {m : Str} {sp : Sp} {o e : Expr} {es : List Expr} {ta : TE} {t : TA} {apos pos : Pos} {pl : Sem Bool} (c : Cls X.K C) (D : MetR X.prog X.w X.K X.mg X.base C k m sp) (hr : Room k X.A) (he : PE X o ta) (ha : PA X (e :: es) t)
    (hst : starEach (e :: es) X.env = (false, eval e X.env) :: starEach es X.env := by rfl) (hpl : (backTo pos (starEach es X.env)).any (·.1) = false := by rfl)
    (ht : eval (.Call (.Attribute o m apos) (e :: es) [] pos) X.env = (do
      let ov ← eval o X.env
      standAt apos.atName
      let (f, first) ← holding [ov] (getMethod ov m pl)
      callWith pos f first (backTo pos (starEach (e :: es) X.env)) (backToKw pos (keywordEach [] X.env))) := by rfl) :
    PE X (.Call (.Attribute o m apos) (e :: es) [] pos) (tMethR C m sp E0 ta t) := by
  obtain ⟨f, F, hm⟩ := D.ex
  exact pe_methR he c hm F hr passN ha hst hpl ht
/-- o.m(e, ..) in a try's body -/
theorem pe_metS {C : Addr} {k : Nat} {m : Str} {sp : Sp} {o e : Expr} {es : List Expr} {ta : TE} {t : TA} {apos pos : Pos} {pl : Sem Bool} (c : Cls X.K C) (D : MetR X.prog X.w X.K X.mg X.base C k m sp) (tk : L2N.Takes X W) (hr : Room k X.A) (he : PE X o ta) (ha : PA X (e :: es) t)
    (hst : starEach (e :: es) X.env = (false, eval e X.env) :: starEach es X.env := by rfl) (hpl : (backTo pos (starEach es X.env)).any (·.1) = false := by rfl)
    (ht : eval (.Call (.Attribute o m apos) (e :: es) [] pos) X.env = (do
      let ov ← eval o X.env
      standAt apos.atName
      let (f, first) ← holding [ov] (getMethod ov m pl)
      callWith pos f first (backTo pos (starEach (e :: es) X.env)) (backToKw pos (keywordEach [] X.env))) := by rfl) :
    PE X (.Call (.Attribute o m apos) (e :: es) [] pos) (fun σ H Q => ta σ H fun x H1 => ∃ a dx fs, x = .ref a ∧ H1 a = some (.ins C dx fs) ∧ fs.lookup m = none ∧ t σ H1 fun vs H2 => sp (x :: vs) H2 Q (WE W σ)) := by
  obtain ⟨f, F, hm⟩ := D.ex
  refine ⟨fun pins s σ H Q I h => ?_⟩
  refine PySem.W.methodCall_KW (pl := pl) (thn (he.run pins s σ H _ I h) fun u s1 ⟨x, H1, I1, rx, a, dx, fs, ex, ea, l, q⟩ => ?_) ht
  subst ex
  obtain rfl : u = Value.ref a := rx
  refine getmeth_ok I1 ea c hm l ?_
  refine PySem.W.callWith_K (first := [.ref a]) (h₀ := X.base) I.ok.mod.kin hm.kp (thn (ha.run pos pins s1 σ H1 _ I1 q) fun us s2 ⟨vs, H2, I2, r, q2⟩ => ⟨I2.kIn, ?_⟩) hst hpl
  exact run_fnRS (us := .ref a :: us) (vs := .ref a :: vs) F hr (L2N.passAt tk σ) I2 (.cons rfl r) q2
/-- o.m() that raises nothing -/
theorem pe_metQ0 {C : Addr} {k : Nat} {m : Str} {sp : Sp} {o : Expr} {ta : TE} {apos pos : Pos} {pl : Sem Bool} (c : Cls X.K C) (D : MetR X.prog X.w X.K X.mg X.base C k m sp) (hr : Room k X.A) (he : PE X o ta)
    (ht : eval (.Call (.Attribute o m apos) [] [] pos) X.env = (do
      let ov ← eval o X.env
      standAt apos.atName
      let (f, first) ← holding [ov] (getMethod ov m pl)
      callWith pos f first (backTo pos (starEach [] X.env)) (backToKw pos (keywordEach [] X.env))) := by rfl) :
    PE X (.Call (.Attribute o m apos) [] [] pos) (fun σ H Q => ta σ H fun x H1 => ∃ a dx fs, x = .ref a ∧ H1 a = some (.ins C dx fs) ∧ fs.lookup m = none ∧ sp [x] H1 Q E0) := by
  obtain ⟨f, F, hm⟩ := D.ex
  refine ⟨fun pins s σ H Q I h => ?_⟩
  refine PySem.W.methodCall_KW (pl := pl) (thn (he.run pins s σ H _ I h) fun u s1 ⟨x, H1, I1, rx, a, dx, fs, ex, ea, l, q⟩ => ?_) ht
  subst ex
  obtain rfl : u = Value.ref a := rx
  refine getmeth_ok I1 ea c hm l ?_
  exact PySem.W.callWith_K0 (first := [.ref a]) I1.kIn hm.kp (run_fnRQ (us := [.ref a]) (vs := [.ref a]) F hr I1 (.cons rfl .nil) q)
/-- xs[i], i no less than 0 -/
def rGetL (K : PySem.W.Frag) : V → V → Hp → VK → Prop := fun x y H Q => ∃ (p : Addr) (xs : List V) (i : Nat) (v : V), x = .ref p ∧ y = .int (i : Nat) ∧ SqL K H p xs ∧ xs[i]? = some v ∧ Q v H
theorem get_list : PGet X (rGetL X.K) := fun pins s σ H o i ov iv Q I ro ri h => by
  obtain ⟨p, xs, j, v, rfl, rfl, hq, he, q⟩ := h
  cases ro
  obtain ⟨t, rfl⟩ := ri
  obtain ⟨its, r, pl, hz⟩ := I.list hq
  obtain ⟨u, eu, ru⟩ := r.get he
  have hl := r.length
  have hj : j < xs.length := by
    rcases Nat.lt_or_ge j xs.length with h | h
    · exact h
    · rw [List.getElem?_eq_none h] at he; cases he
  have hn := line63
  refine wpAny_getItem_list pl.isList (by omega) (by omega) (x := u) ?_ ⟨v, H, I, ru, q⟩
  rw [Int.toNat_natCast]
  simpa using eu
end
/-- all but these stand as they stood, and nothing goes -/
def Keep (Z : List Addr) (H H' : Hp) : Prop := (∀ a o, H a = some o → a ∉ Z → H' a = some o) ∧ ∀ a, H a ≠ none → H' a ≠ none
theorem Keep.of {Z : List Addr} {H H' : Hp} (s : Same H H') : Keep Z H H' := ⟨fun a o e _ => s a o e, fun a n => by
  cases e : H a with
  | none => exact absurd e n
  | some o => rw [s a o e]; exact fun z => nomatch z⟩
theorem Keep.trans {Z : List Addr} {H H1 H2 : Hp} (a : Keep Z H H1) (b : Keep Z H1 H2) : Keep Z H H2 := ⟨fun x o e n => b.1 x o (a.1 x o e n) n, fun x n => b.2 x (a.2 x n)⟩
theorem Keep.sub {Y Z : List Addr} {H H' : Hp} (k : Keep Y H H') (s : ∀ a ∈ Y, a ∈ Z) : Keep Z H H' := ⟨fun a o e n => k.1 a o e fun h => n (s a h), k.2⟩
theorem Keep.upd {Z : List Addr} {H H' : Hp} (k : Keep Z H H') {p : Addr} {o : HO} (h : p ∈ Z) : Keep Z H (L2.upd H' p o) := ⟨fun a u e n => by
  rw [upd_ne (fun z => n (by rw [z]; exact h))]
  exact k.1 a u e n, fun a n => by
  by_cases e : a = p
  · rw [e, upd_same]; exact fun z => nomatch z
  · rw [upd_ne e]; exact k.2 a n⟩
end Sl

set_option Elab.async false
set_option linter.all false
set_option maxRecDepth 100000
set_option maxHeartbeats 4000000
namespace Slx
open PySem PySem.Spec PyProof.Rows L2 Sl
def topS (i : Nat) : Stmt := PySem.Challenge.pw_sidinglane_k10_whole_a_yard.main.body.getD i (.Pass ⟨0, 0, 0, 0⟩)
abbrev s_isNumber : Stmt := topS 11
theorem sc_isNumber : FnScope ["thing", "least", "most"] ["thing", "least", "most"] (defScope s_isNumber) := ⟨rfl, rfl, rfl, by decide +kernel, rfl, by decide +kernel, by decide +kernel⟩
abbrev s_isWay : Stmt := topS 12
theorem sc_isWay : FnScope ["thing"] ["thing"] (defScope s_isWay) := ⟨rfl, rfl, rfl, by decide +kernel, rfl, by decide +kernel, by decide +kernel⟩
abbrev s_needLane : Stmt := topS 13
theorem sc_needLane : FnScope ["lane", "held"] ["lane"] (defScope s_needLane) := ⟨rfl, rfl, rfl, by decide +kernel, rfl, by decide +kernel, by decide +kernel⟩
abbrev s_needWays : Stmt := topS 14
theorem sc_needWays : FnScope ["ways", "way"] ["ways"] (defScope s_needWays) := ⟨rfl, rfl, rfl, by decide +kernel, rfl, by decide +kernel, by decide +kernel⟩
abbrev s_needStand : Stmt := topS 15
theorem sc_needStand : FnScope ["lane", "ways", "stand"] ["lane", "ways", "stand"] (defScope s_needStand) := ⟨rfl, rfl, rfl, by decide +kernel, rfl, by decide +kernel, by decide +kernel⟩
abbrev s_needSpots : Stmt := topS 16
theorem sc_needSpots : FnScope ["lane", "stand", "spot"] ["lane", "stand"] (defScope s_needSpots) := ⟨rfl, rfl, rfl, by decide +kernel, rfl, by decide +kernel, by decide +kernel⟩
abbrev s_isSpot : Stmt := topS 17
theorem sc_isSpot : FnScope ["lane", "thing", "word"] ["lane", "thing"] (defScope s_isSpot) := ⟨rfl, rfl, rfl, by decide +kernel, rfl, by decide +kernel, by decide +kernel⟩
abbrev s_mostAt : Stmt := topS 18
theorem sc_mostAt : FnScope ["lane", "spot"] ["lane", "spot"] (defScope s_mostAt) := ⟨rfl, rfl, rfl, by decide +kernel, rfl, by decide +kernel, by decide +kernel⟩
abbrev s_behind : Stmt := topS 20
theorem sc_behind : FnScope ["lane", "ways", "stand", "move", "train", "choice", "spot"] ["lane", "ways", "stand", "move"] (defScope s_behind) := ⟨rfl, rfl, rfl, by decide +kernel, rfl, by decide +kernel, by decide +kernel⟩
abbrev s_isMove : Stmt := topS 21
theorem sc_isMove : FnScope ["thing", "trains", "word", "train"] ["thing", "trains"] (defScope s_isMove) := ⟨rfl, rfl, rfl, by decide +kernel, rfl, by decide +kernel, by decide +kernel⟩
abbrev s_choices : Stmt := topS 22
theorem sc_choices : FnScope ["lane", "ways", "stand", "train", "found", "move", "spot"] ["lane", "ways", "stand", "train"] (defScope s_choices) := ⟨rfl, rfl, rfl, by decide +kernel, rfl, by decide +kernel, by decide +kernel⟩
abbrev s_tries : Stmt := topS 23
theorem sc_tries : FnScope ["lane", "way", "spot", "train", "word", "place", "ahead"] ["lane", "way", "spot", "train"] (defScope s_tries) := ⟨rfl, rfl, rfl, by decide +kernel, rfl, by decide +kernel, by decide +kernel⟩
abbrev s_spotAhead : Stmt := topS 24
theorem sc_spotAhead : FnScope ["lane", "way", "place", "ahead"] ["lane", "way", "place"] (defScope s_spotAhead) := ⟨rfl, rfl, rfl, by decide +kernel, rfl, by decide +kernel, by decide +kernel⟩
abbrev s_hasRoom : Stmt := topS 25
theorem sc_hasRoom : FnScope ["lane", "stand", "spot"] ["lane", "stand", "spot"] (defScope s_hasRoom) := ⟨rfl, rfl, rfl, by decide +kernel, rfl, by decide +kernel, by decide +kernel⟩
abbrev s_reached : Stmt := topS 27
theorem sc_reached : FnScope ["lane", "ways", "stand", "tracks", "seen", "waiting", "here", "_", "then"] ["lane", "ways", "stand"] (defScope s_reached) := ⟨rfl, rfl, rfl, by decide +kernel, rfl, by decide +kernel, by decide +kernel⟩
abbrev s_leastRow : Stmt := topS 28
theorem sc_leastRow : FnScope ["lane", "ways", "stand", "came", "here", "row", "move"] ["lane", "ways", "stand"] (defScope s_leastRow) := ⟨rfl, rfl, rfl, by decide +kernel, rfl, by decide +kernel, by decide +kernel⟩
abbrev s_closed : Stmt := topS 29
theorem sc_closed : FnScope ["lane", "ways", "stand", "came"] ["lane", "ways", "stand"] (defScope s_closed) := ⟨rfl, rfl, rfl, by decide +kernel, rfl, by decide +kernel, by decide +kernel⟩
abbrev s_allOut : Stmt := topS 31
theorem sc_allOut : FnScope ["trains"] ["trains"] (defScope s_allOut) := ⟨rfl, rfl, rfl, by decide +kernel, rfl, by decide +kernel, by decide +kernel⟩
abbrev s_allTracks : Stmt := topS 32
theorem sc_allTracks : FnScope ["lane", "ways", "places", "word", "place", "spots", "train", "way", "spot"] ["lane", "ways"] (defScope s_allTracks) := ⟨rfl, rfl, rfl, by decide +kernel, rfl, by decide +kernel, by decide +kernel⟩
abbrev s_tracksFrom : Stmt := topS 33
theorem sc_tracksFrom : FnScope ["lane", "way", "spot", "train", "move", "then"] ["lane", "way", "spot", "train"] (defScope s_tracksFrom) := ⟨rfl, rfl, rfl, by decide +kernel, rfl, by decide +kernel, by decide +kernel⟩
abbrev s_steps : Stmt := topS 34
theorem sc_steps : FnScope ["tracks", "stand", "train", "spot", "move", "then", "most"] ["tracks", "stand"] (defScope s_steps) := ⟨rfl, rfl, rfl, by decide +kernel, rfl, by decide +kernel, by decide +kernel⟩
abbrev s_searched : Stmt := topS 35
theorem sc_searched : FnScope ["lane", "ways", "stand", "tracks", "end", "came", "waiting", "later", "here", "step", "move", "then"] ["lane", "ways", "stand"] (defScope s_searched) := ⟨rfl, rfl, rfl, by decide +kernel, rfl, by decide +kernel, by decide +kernel⟩
abbrev s_lCellAt : Stmt := topS 39
theorem sc_lCellAt : FnScope ["_law_script", "_law_k"] ["_law_script", "_law_k"] (defScope s_lCellAt) := ⟨rfl, rfl, rfl, by decide +kernel, rfl, by decide +kernel, by decide +kernel⟩
abbrev s_lWhole : Stmt := topS 40
theorem sc_lWhole : FnScope ["_law_found"] ["_law_found"] (defScope s_lWhole) := ⟨rfl, rfl, rfl, by decide +kernel, rfl, by decide +kernel, by decide +kernel⟩
abbrev s_lMixed : Stmt := topS 41
theorem sc_lMixed : FnScope ["_law_script", "_law_k", "_law_first"] ["_law_script", "_law_k"] (defScope s_lMixed) := ⟨rfl, rfl, rfl, by decide +kernel, rfl, by decide +kernel, by decide +kernel⟩
abbrev s_lSpot : Stmt := topS 42
theorem sc_lSpot : FnScope ["_law_lane", "_law_stand", "_law_cell", "_law_place", "_law_spots", "_law_k", "_law_spot_here"] ["_law_lane", "_law_stand", "_law_cell"] (defScope s_lSpot) := ⟨rfl, rfl, rfl, by decide +kernel, rfl, by decide +kernel, by decide +kernel⟩
abbrev s_lBuilt : Stmt := topS 43
theorem sc_lBuilt : FnScope ["_law_script", "_law_first", "_law_second", "_law_many", "_law_trains", "_law_rooms", "_law_k", "_law_lane", "_law_ways", "_law_stand", "_law_cell"] ["_law_script"] (defScope s_lBuilt) := ⟨rfl, rfl, rfl, by decide +kernel, rfl, by decide +kernel, by decide +kernel⟩
abbrev s_lOn : Stmt := topS 44
theorem sc_lOn : FnScope ["_law_lane", "_law_way", "_law_place", "_law_goal"] ["_law_lane", "_law_way", "_law_place"] (defScope s_lOn) := ⟨rfl, rfl, rfl, by decide +kernel, rfl, by decide +kernel, by decide +kernel⟩
abbrev s_lMoves : Stmt := topS 45
theorem sc_lMoves : FnScope ["_law_lane", "_law_ways", "_law_stand", "_law_found", "_law_k", "_law_spot_here", "_law_some", "_law_here", "_law_one", "_law_word", "_law_goal"] ["_law_lane", "_law_ways", "_law_stand"] (defScope s_lMoves) := ⟨rfl, rfl, rfl, by decide +kernel, rfl, by decide +kernel, by decide +kernel⟩
abbrev s_lLeft : Stmt := topS 46
theorem sc_lLeft : FnScope ["_law_lane", "_law_ways", "_law_stand", "_law_total", "_law_k"] ["_law_lane", "_law_ways", "_law_stand"] (defScope s_lLeft) := ⟨rfl, rfl, rfl, by decide +kernel, rfl, by decide +kernel, by decide +kernel⟩
abbrev s_lKnown : Stmt := topS 47
theorem sc_lKnown : FnScope ["_law_lane", "_law_ways", "_law_stand", "_law_led", "_law_waiting", "_law_here", "_law_move", "_law_fresh", "_law_found", "_law_turn", "_law_rows", "_law_spot_here", "_law_row", "_law_some"] ["_law_lane", "_law_ways", "_law_stand"] (defScope s_lKnown) := ⟨rfl, rfl, rfl, by decide +kernel, rfl, by decide +kernel, by decide +kernel⟩
abbrev s_lKind : Stmt := topS 48
theorem sc_lKind : FnScope ["_law_e", "_law_some", "_law_word", "_law_fits"] ["_law_e"] (defScope s_lKind) := ⟨rfl, rfl, rfl, by decide +kernel, rfl, by decide +kernel, by decide +kernel⟩
abbrev s_lTried : Stmt := topS 49
theorem sc_lTried : FnScope ["_law_yard", "_law_word", "_law_thing", "_law_e"] ["_law_yard", "_law_word", "_law_thing"] (defScope s_lTried) := ⟨rfl, rfl, rfl, by decide +kernel, rfl, by decide +kernel, by decide +kernel⟩
abbrev s_lIsRow : Stmt := topS 50
theorem sc_lIsRow : FnScope ["_law_own_here", "_law_row", "_law_price", "_law_here", "_law_move", "_law_led", "_law_spot_here"] ["_law_own_here", "_law_row", "_law_price"] (defScope s_lIsRow) := ⟨rfl, rfl, rfl, by decide +kernel, rfl, by decide +kernel, by decide +kernel⟩
abbrev s_lIsClosed : Stmt := topS 51
theorem sc_lIsClosed : FnScope ["_law_own_here", "_law_told", "_law_one", "_law_known_here", "_law_here", "_law_spot_here", "_law_move", "_law_fresh"] ["_law_own_here", "_law_told"] (defScope s_lIsClosed) := ⟨rfl, rfl, rfl, by decide +kernel, rfl, by decide +kernel, by decide +kernel⟩
abbrev s_lChanged : Stmt := topS 52
theorem sc_lChanged : FnScope ["_law_told", "_law_question"] ["_law_told", "_law_question"] (defScope s_lChanged) := ⟨rfl, rfl, rfl, by decide +kernel, rfl, by decide +kernel, by decide +kernel⟩
abbrev s_lAnswer : Stmt := topS 53
theorem sc_lAnswer : FnScope ["_law_yard", "_law_own_here", "_law_held", "_law_question", "_law_price", "_law_told", "_law_right"] ["_law_yard", "_law_own_here", "_law_held", "_law_question"] (defScope s_lAnswer) := ⟨rfl, rfl, rfl, by decide +kernel, rfl, by decide +kernel, by decide +kernel⟩
abbrev s_lLooked : Stmt := topS 54
theorem sc_lLooked : FnScope ["_law_yard", "_law_own_here", "_law_held", "_law_cell", "_law_turn"] ["_law_yard", "_law_own_here", "_law_held", "_law_cell"] (defScope s_lLooked) := ⟨rfl, rfl, rfl, by decide +kernel, rfl, by decide +kernel, by decide +kernel⟩
abbrev s_lRenewed : Stmt := topS 55
theorem sc_lRenewed : FnScope ["_law_own_here", "_law_gained"] ["_law_own_here", "_law_gained"] (defScope s_lRenewed) := ⟨rfl, rfl, rfl, by decide +kernel, rfl, by decide +kernel, by decide +kernel⟩
abbrev s_lMoved : Stmt := topS 56
theorem sc_lMoved : FnScope ["_law_yard", "_law_own_here", "_law_cell", "_law_led", "_law_word", "_law_odd", "_law_move", "_law_moves_here"] ["_law_yard", "_law_own_here", "_law_cell"] (defScope s_lMoved) := ⟨rfl, rfl, rfl, by decide +kernel, rfl, by decide +kernel, by decide +kernel⟩
abbrev s_lLonger : Stmt := topS 57
theorem sc_lLonger : FnScope ["_law_yard", "_law_own_here", "_law_cell", "_law_far", "_law_place", "_law_bad"] ["_law_yard", "_law_own_here", "_law_cell"] (defScope s_lLonger) := ⟨rfl, rfl, rfl, by decide +kernel, rfl, by decide +kernel, by decide +kernel⟩
abbrev s_lOwn : Stmt := topS 58
theorem sc_lOwn : FnScope ["_law_script", "_law_lane", "_law_ways", "_law_stand", "_law_most", "_law_found", "_law_spot_here", "_law_fits", "_law_own_here"] ["_law_script"] (defScope s_lOwn) := ⟨rfl, rfl, rfl, by decide +kernel, rfl, by decide +kernel, by decide +kernel⟩
abbrev s_law : Stmt := topS 59
theorem sc_law : FnScope ["_law_script", "_law_owns", "_law_yards", "_law_own_here", "_law_handed", "_law_held", "_law_cell", "_law_at", "_law_more", "_law_good", "_law_k", "_law_question", "_law_pair"] ["_law_script"] (defScope s_law) := ⟨rfl, rfl, rfl, by decide +kernel, rfl, by decide +kernel, by decide +kernel⟩
abbrev s_yInit : Stmt := inClass (topS 37) 0
theorem sc_yInit : FnScope ["self", "lane", "ways", "stand"] ["self", "lane", "ways", "stand"] (defScope s_yInit) := ⟨rfl, rfl, rfl, by decide +kernel, rfl, by decide +kernel, by decide +kernel⟩
abbrev s_yLane : Stmt := inClass (topS 37) 1
theorem sc_yLane : FnScope ["self"] ["self"] (defScope s_yLane) := ⟨rfl, rfl, rfl, by decide +kernel, rfl, by decide +kernel, by decide +kernel⟩
abbrev s_yWays : Stmt := inClass (topS 37) 2
theorem sc_yWays : FnScope ["self"] ["self"] (defScope s_yWays) := ⟨rfl, rfl, rfl, by decide +kernel, rfl, by decide +kernel, by decide +kernel⟩
abbrev s_yStand : Stmt := inClass (topS 37) 3
theorem sc_yStand : FnScope ["self"] ["self"] (defScope s_yStand) := ⟨rfl, rfl, rfl, by decide +kernel, rfl, by decide +kernel, by decide +kernel⟩
abbrev s_yDo : Stmt := inClass (topS 37) 4
theorem sc_yDo : FnScope ["self", "move"] ["self", "move"] (defScope s_yDo) := ⟨rfl, rfl, rfl, by decide +kernel, rfl, by decide +kernel, by decide +kernel⟩
abbrev s_yLonger : Stmt := inClass (topS 37) 5
theorem sc_yLonger : FnScope ["self", "place"] ["self", "place"] (defScope s_yLonger) := ⟨rfl, rfl, rfl, by decide +kernel, rfl, by decide +kernel, by decide +kernel⟩
abbrev s_yPrice : Stmt := inClass (topS 37) 6
theorem sc_yPrice : FnScope ["self", "row"] ["self"] (defScope s_yPrice) := ⟨rfl, rfl, rfl, by decide +kernel, rfl, by decide +kernel, by decide +kernel⟩
abbrev s_yRow : Stmt := inClass (topS 37) 7
theorem sc_yRow : FnScope ["self"] ["self"] (defScope s_yRow) := ⟨rfl, rfl, rfl, by decide +kernel, rfl, by decide +kernel, by decide +kernel⟩
abbrev s_yClosed : Stmt := inClass (topS 37) 8
theorem sc_yClosed : FnScope ["self"] ["self"] (defScope s_yClosed) := ⟨rfl, rfl, rfl, by decide +kernel, rfl, by decide +kernel, by decide +kernel⟩
abbrev s_yGained : Stmt := inClass (topS 37) 9
theorem sc_yGained : FnScope ["self"] ["self"] (defScope s_yGained) := ⟨rfl, rfl, rfl, by decide +kernel, rfl, by decide +kernel, by decide +kernel⟩
abbrev s_yManyReached : Stmt := inClass (topS 37) 10
theorem sc_yManyReached : FnScope ["self", "lane"] ["self", "lane"] (defScope s_yManyReached) := ⟨rfl, rfl, rfl, by decide +kernel, rfl, by decide +kernel, by decide +kernel⟩
/-- what is known of the class -/
structure Yrd (K : PySem.W.Frag) (mg : Str → Option Value) (C : Addr) : Prop where
  cl : Cls K C
  g : mg "Yard" = some (.ref C)
  makes : PySem.W.makesIn K C = true
  kp : PySem.W.keepIn K (.ref C) = true
  n_lane : NoAttr K C "_lane"
  n_shorter : NoAttr K C "_shorter"
  n_stand : NoAttr K C "_stand"
  n_ways : NoAttr K C "_ways"
  m_yInit : ∃ f fd, Fun K "__init__" "Yard.__init__" s_yInit f fd ∧ (PySem.W.findIn K (.ref C) "__init__" = some (some (.ref f)) ∧ PySem.W.isFn K (.ref f) = true ∧ PySem.W.keepIn K (.ref f) = true) ∧ Binds K fd ["self", "lane", "ways", "stand"] []
  m_yLane : ∃ f fd, Fun K "lane" "Yard.lane" s_yLane f fd ∧ (PySem.W.findIn K (.ref C) "lane" = some (some (.ref f)) ∧ PySem.W.isFn K (.ref f) = true ∧ PySem.W.keepIn K (.ref f) = true) ∧ Binds K fd ["self"] []
  m_yWays : ∃ f fd, Fun K "ways" "Yard.ways" s_yWays f fd ∧ (PySem.W.findIn K (.ref C) "ways" = some (some (.ref f)) ∧ PySem.W.isFn K (.ref f) = true ∧ PySem.W.keepIn K (.ref f) = true) ∧ Binds K fd ["self"] []
  m_yStand : ∃ f fd, Fun K "stand" "Yard.stand" s_yStand f fd ∧ (PySem.W.findIn K (.ref C) "stand" = some (some (.ref f)) ∧ PySem.W.isFn K (.ref f) = true ∧ PySem.W.keepIn K (.ref f) = true) ∧ Binds K fd ["self"] []
  m_yDo : ∃ f fd, Fun K "do" "Yard.do" s_yDo f fd ∧ (PySem.W.findIn K (.ref C) "do" = some (some (.ref f)) ∧ PySem.W.isFn K (.ref f) = true ∧ PySem.W.keepIn K (.ref f) = true) ∧ Binds K fd ["self", "move"] []
  m_yLonger : ∃ f fd, Fun K "longer" "Yard.longer" s_yLonger f fd ∧ (PySem.W.findIn K (.ref C) "longer" = some (some (.ref f)) ∧ PySem.W.isFn K (.ref f) = true ∧ PySem.W.keepIn K (.ref f) = true) ∧ Binds K fd ["self", "place"] []
  m_yPrice : ∃ f fd, Fun K "price" "Yard.price" s_yPrice f fd ∧ (PySem.W.findIn K (.ref C) "price" = some (some (.ref f)) ∧ PySem.W.isFn K (.ref f) = true ∧ PySem.W.keepIn K (.ref f) = true) ∧ Binds K fd ["self"] []
  m_yRow : ∃ f fd, Fun K "row" "Yard.row" s_yRow f fd ∧ (PySem.W.findIn K (.ref C) "row" = some (some (.ref f)) ∧ PySem.W.isFn K (.ref f) = true ∧ PySem.W.keepIn K (.ref f) = true) ∧ Binds K fd ["self"] []
  m_yClosed : ∃ f fd, Fun K "closed" "Yard.closed" s_yClosed f fd ∧ (PySem.W.findIn K (.ref C) "closed" = some (some (.ref f)) ∧ PySem.W.isFn K (.ref f) = true ∧ PySem.W.keepIn K (.ref f) = true) ∧ Binds K fd ["self"] []
  m_yGained : ∃ f fd, Fun K "gained" "Yard.gained" s_yGained f fd ∧ (PySem.W.findIn K (.ref C) "gained" = some (some (.ref f)) ∧ PySem.W.isFn K (.ref f) = true ∧ PySem.W.keepIn K (.ref f) = true) ∧ Binds K fd ["self"] []
  m_yManyReached : ∃ f fd, Fun K "_many_reached" "Yard._many_reached" s_yManyReached f fd ∧ (PySem.W.findIn K (.ref C) "_many_reached" = some (some (.ref f)) ∧ PySem.W.isFn K (.ref f) = true ∧ PySem.W.keepIn K (.ref f) = true) ∧ Binds K fd ["self", "lane"] []
/-- what the top has written -/
structure Txt (K : PySem.W.Frag) (mg : Str → Option Value) : Prop where
  b_ValueError : mg "ValueError" = none
  b_all : mg "all" = none
  b_any : mg "any" = none
  b_bool : mg "bool" = none
  b_dict : mg "dict" = none
  b_enumerate : mg "enumerate" = none
  b_int : mg "int" = none
  b_isinstance : mg "isinstance" = none
  b_len : mg "len" = none
  b_list : mg "list" = none
  b_min : mg "min" = none
  b_range : mg "range" = none
  b_sorted : mg "sorted" = none
  b_str : mg "str" = none
  b_tuple : mg "tuple" = none
  b_type : mg "type" = none
  c_MOST_PLACES : ∃ t, mg "MOST_PLACES" = some (.int 8 t)
  c_MOST_HELD : ∃ t, mg "MOST_HELD" = some (.int 4 t)
  c_MOST_TRAINS : ∃ t, mg "MOST_TRAINS" = some (.int 6 t)
  f_isNumber : FnAt K mg "is_number" s_isNumber ["thing", "least", "most"]
  f_isWay : FnAt K mg "is_way" s_isWay ["thing"]
  f_needLane : FnAt K mg "need_lane" s_needLane ["lane"]
  f_needWays : FnAt K mg "need_ways" s_needWays ["ways"]
  f_needStand : FnAt K mg "need_stand" s_needStand ["lane", "ways", "stand"]
  f_needSpots : FnAt K mg "need_spots" s_needSpots ["lane", "stand"]
  f_isSpot : FnAt K mg "is_spot" s_isSpot ["lane", "thing"]
  f_mostAt : FnAt K mg "most_at" s_mostAt ["lane", "spot"]
  f_behind : FnAt K mg "behind" s_behind ["lane", "ways", "stand", "move"]
  f_isMove : FnAt K mg "is_move" s_isMove ["thing", "trains"]
  f_choices : FnAt K mg "choices" s_choices ["lane", "ways", "stand", "train"]
  f_tries : FnAt K mg "tries" s_tries ["lane", "way", "spot", "train"]
  f_spotAhead : FnAt K mg "spot_ahead" s_spotAhead ["lane", "way", "place"]
  f_hasRoom : FnAt K mg "has_room" s_hasRoom ["lane", "stand", "spot"]
  f_reached : FnAt K mg "reached" s_reached ["lane", "ways", "stand"]
  f_leastRow : FnAt K mg "least_row" s_leastRow ["lane", "ways", "stand"]
  f_closed : FnAt K mg "closed" s_closed ["lane", "ways", "stand"]
  f_allOut : FnAt K mg "all_out" s_allOut ["trains"]
  f_allTracks : FnAt K mg "all_tracks" s_allTracks ["lane", "ways"]
  f_tracksFrom : FnAt K mg "tracks_from" s_tracksFrom ["lane", "way", "spot", "train"]
  f_steps : FnAt K mg "steps" s_steps ["tracks", "stand"]
  f_searched : FnAt K mg "searched" s_searched ["lane", "ways", "stand"]
  f_lCellAt : FnAt K mg "_law_cell_at" s_lCellAt ["_law_script", "_law_k"]
  f_lWhole : FnAt K mg "_law_whole" s_lWhole ["_law_found"]
  f_lMixed : FnAt K mg "_law_mixed" s_lMixed ["_law_script", "_law_k"]
  f_lSpot : FnAt K mg "_law_spot" s_lSpot ["_law_lane", "_law_stand", "_law_cell"]
  f_lBuilt : FnAt K mg "_law_built" s_lBuilt ["_law_script"]
  f_lOn : FnAt K mg "_law_on" s_lOn ["_law_lane", "_law_way", "_law_place"]
  f_lMoves : FnAt K mg "_law_moves" s_lMoves ["_law_lane", "_law_ways", "_law_stand"]
  f_lLeft : FnAt K mg "_law_left" s_lLeft ["_law_lane", "_law_ways", "_law_stand"]
  f_lKnown : FnAt K mg "_law_known" s_lKnown ["_law_lane", "_law_ways", "_law_stand"]
  f_lKind : FnAt K mg "_law_kind" s_lKind ["_law_e"]
  f_lTried : FnAt K mg "_law_tried" s_lTried ["_law_yard", "_law_word", "_law_thing"]
  f_lIsRow : FnAt K mg "_law_is_row" s_lIsRow ["_law_own_here", "_law_row", "_law_price"]
  f_lIsClosed : FnAt K mg "_law_is_closed" s_lIsClosed ["_law_own_here", "_law_told"]
  f_lChanged : FnAt K mg "_law_changed" s_lChanged ["_law_told", "_law_question"]
  f_lAnswer : FnAt K mg "_law_answer" s_lAnswer ["_law_yard", "_law_own_here", "_law_held", "_law_question"]
  f_lLooked : FnAt K mg "_law_looked" s_lLooked ["_law_yard", "_law_own_here", "_law_held", "_law_cell"]
  f_lRenewed : FnAt K mg "_law_renewed" s_lRenewed ["_law_own_here", "_law_gained"]
  f_lMoved : FnAt K mg "_law_moved" s_lMoved ["_law_yard", "_law_own_here", "_law_cell"]
  f_lLonger : FnAt K mg "_law_longer" s_lLonger ["_law_yard", "_law_own_here", "_law_cell"]
  f_lOwn : FnAt K mg "_law_own" s_lOwn ["_law_script"]
  f_law : FnAt K mg "law" s_law ["_law_script"]
  al_closedSearch : mg "closed_search" = mg "closed"
  yard : ∃ C, Yrd K mg C
  errs : ∃ L C, Errs K mg L C
theorem hu64 {A : Around} {k : Nat} (hr : Room k A) : A.units + 64 < cLine := Nat.lt_of_le_of_lt (by omega : A.units + 64 ≤ A.units + 16 * k + 200) hr.un
theorem hu65 {A : Around} {k : Nat} (hr : Room k A) : A.units + 65 < cLine := Nat.lt_of_le_of_lt (by omega : A.units + 65 ≤ A.units + 16 * k + 200) hr.un
section
variable {P : Program} {w : World} {K : PySem.W.Frag} {mg : Str → Option Value} {base : Heap}
/-! ### numbers and ways -/
def isNum (x : V) (lo hi : Int) : Bool := match x with
  | .int i => decide (lo ≤ i) && decide (i ≤ hi)
  | _ => false
def spIsNumber (K : PySem.W.Frag) : Sp := fun vs H Q _ => ∃ x Tn lo hi, vs = [x, .int lo, .int hi] ∧ TyB K H x Tn ∧ Q (.bl (isNum x lo hi)) H
theorem isNum_ty {K : PySem.W.Frag} {H : Hp} {x : V} {Tn : String} (t : TyB K H x Tn) (lo hi : Int) : (∃ i, x = .int i ∧ Tn = "int") ∨ (Tn ≠ "int" ∧ isNum x lo hi = false) := by
  cases t with
  | int i => exact .inl ⟨i, rfl, rfl⟩
  | non | bl | str | byt => exact .inr ⟨by decide, rfl⟩
  | lst | tup | dK => exact .inr ⟨by decide, rfl⟩
theorem ok_isNumber (T : Txt K mg) : DefOk P w K mg base 1 "is_number" ["thing", "least", "most"] (spIsNumber K) := by
  refine T.f_isNumber.ok sc_isNumber (fun vs H Q E h => by obtain ⟨x, Tn, lo, hi, rfl, _⟩ := h; rfl) (fun f cdv A outer s H vs Q E hr h => ?_)
  obtain ⟨x, Tn, lo, hi, rfl, ty, q⟩ := h
  refine ⟨_, (pss_one (ps_ret (pe_and (pe_cmpR op_isTyB (pe_callTy call_type1 (by rfl) T.b_type (by decide +kernel) (pa_cons (pv 0) pa_nil)) (pe_ty (T := "int") T.b_int (by decide +kernel)) (nomark _)) (pe_one (pe_chain op_le op_le (pv 1) (pv 0) (pv 2)))))), ?_⟩
  refine ⟨x, rfl, x, Tn, rfl, ty, Tn, "int", rfl, rfl, _, rfl, ?_⟩
  rcases isNum_ty ty lo hi with ⟨i, rfl, rfl⟩ | ⟨hn, e⟩
  · refine iteT ⟨.int lo, rfl, .int i, rfl, lo, i, rfl, rfl, _, rfl, ite2 (fun h1 => ⟨.int hi, rfl, i, hi, rfl, rfl, ?_⟩) (fun h1 => ?_)⟩
    · have e : isNum (.int i) lo hi = decide (i ≤ hi) := by show (decide (lo ≤ i) && decide (i ≤ hi)) = _; rw [h1, Bool.true_and]
      rw [e] at q; exact q
    · have e : isNum (.int i) lo hi = false := by show (decide (lo ≤ i) && decide (i ≤ hi)) = _; rw [Bool.eq_false_iff.mpr h1, Bool.false_and]
      rw [e] at q; exact q
  · rw [decide_eq_false hn]
    rw [e] at q
    exact iteF q
/-! ### lanes, ways, spots in the heap -/
def wS : Bool → Str
  | true => "right"
  | false => "left"
def vS : Spot → List V
  | .lane p => [.str "lane", .int p]
  | .side p => [.str "side", .int p]
  | .out => [.str "out"]
def dS : Spot → PyData
  | .lane p => .tuple [.str "lane", .int p]
  | .side p => .tuple [.str "side", .int p]
  | .out => .tuple [.str "out"]
abbrev LaneAt (K : PySem.W.Frag) (H : Hp) (a : Addr) (ln : List Int) : Prop := SqL K H a (ln.map V.int)
abbrev WaysAt (K : PySem.W.Frag) (H : Hp) (a : Addr) (wy : List Bool) : Prop := SqL K H a (wy.map fun b => V.str (wS b))
abbrev SpotAt (H : Hp) (a : Addr) (s : Spot) : Prop := TupAt H a (vS s)
theorem SpotAt.im {H : Hp} {a : Addr} {s : Spot} (h : SpotAt H a s) : Im H (.ref a) (dS s) := by
  cases s with
  | lane p => exact .tup h (.cons (.str _) (.cons (.int _) .nil))
  | side p => exact .tup h (.cons (.str _) (.cons (.int _) .nil))
  | out => exact .tup h (.cons (.str _) .nil)
theorem im_spot {H : Hp} {v : V} {s : Spot} (h : Im H v (dS s)) : ∃ a, v = .ref a ∧ SpotAt H a s := by
  cases s with
  | lane p =>
    cases h with
    | tup e t => cases t with
      | cons h1 t => cases h1; cases t with
        | cons h2 t => cases h2; cases t; exact ⟨_, rfl, e⟩
  | side p =>
    cases h with
    | tup e t => cases t with
      | cons h1 t => cases h1; cases t with
        | cons h2 t => cases h2; cases t; exact ⟨_, rfl, e⟩
  | out =>
    cases h with
    | tup e t => cases t with
      | cons h1 t => cases h1; cases t; exact ⟨_, rfl, e⟩
/-- a stand at a -/
def StandAt (H : Hp) (a : Addr) (S : Stand) : Prop := ∃ xs, TupAt H a xs ∧ ImAll H xs (S.map dS)
theorem StandAt.mono {H H' : Hp} {a : Addr} {S : Stand} (t : Ti H H') (h : StandAt H a S) : StandAt H' a S := by
  obtain ⟨xs, e, i⟩ := h
  exact ⟨xs, t _ _ e, i.mono t⟩
theorem StandAt.im {H : Hp} {a : Addr} {S : Stand} (h : StandAt H a S) : Im H (.ref a) (.tuple (S.map dS)) := by
  obtain ⟨xs, e, i⟩ := h
  exact .tup e i
theorem StandAt.len {H : Hp} {S : Stand} {xs : List V} (i : ImAll H xs (S.map dS)) : xs.length = S.length := by
  rw [i.length, List.length_map]
theorem stand_get {H : Hp} {S : Stand} {xs : List V} (i : ImAll H xs (S.map dS)) {k : Nat} {s : Spot} (h : S[k]? = some s) : ∃ p, xs[k]? = some (.ref p) ∧ SpotAt H p s := by
  obtain ⟨v, e, m⟩ := i.get (i := k) (d := dS s) (by rw [List.getElem?_map, h]; rfl)
  obtain ⟨p, rfl, q⟩ := im_spot m
  exact ⟨p, e, q⟩
theorem stand_getV {H : Hp} {S : Stand} {xs : List V} (i : ImAll H xs (S.map dS)) {k : Nat} {v : V} (h : xs[k]? = some v) : ∃ p s, v = .ref p ∧ S[k]? = some s ∧ SpotAt H p s := by
  obtain ⟨d, e, m⟩ := i.getV h
  rw [List.getElem?_map] at e
  cases hs : S[k]? with
  | none => rw [hs] at e; cases e
  | some s =>
    rw [hs] at e
    cases e
    obtain ⟨p, rfl, q⟩ := im_spot m
    exact ⟨p, s, rfl, rfl, q⟩
theorem str_beq (x y : Str) : (x == y) = decide (x = y) := by
  by_cases h : x = y
  · subst h; simp
  · rw [decide_eq_false h]; exact beq_eq_false_iff_ne.mpr h
theorem natInt_eq (p q : Nat) : ((p : Int) == (q : Int)) = decide (p = q) := by
  by_cases h : p = q
  · subst h; simp
  · rw [decide_eq_false h]; exact beq_eq_false_iff_ne.mpr (by omega)
theorem ne_ls : ¬ (Str.ofString "lane" = Str.ofString "side") := by decide
theorem ne_sl : ¬ (Str.ofString "side" = Str.ofString "lane") := by decide
theorem eqv_spot (a b : Spot) : PyData.eqv (dS a) (dS b) = decide (a = b) := by
  cases a <;> cases b <;> simp [dS, PyData.eqv, PyData.eqvAll, natInt_eq, ne_ls, ne_sl]
theorem shaped_spot (a : Spot) : SeqAt.shaped (dS a) = true := by
  cases a <;> (simp [dS, SeqAt.shaped, PyData.canLay0, PyData.canLayAll0, PyData.depth, PyData.depthAll]; try decide +kernel)
theorem canLay_spots : ∀ S : Stand, PyData.canLayAll0 (S.map dS) = true
  | [] => rfl
  | s :: S => by
    show (PyData.canLay0 (dS s) && PyData.canLayAll0 (S.map dS)) = true
    rw [canLay_spots S, SeqAt.canLay_of_shaped (shaped_spot s)]
    rfl
theorem depth_spots : ∀ S : Stand, PyData.depthAll (S.map dS) ≤ 2
  | [] => by show 0 ≤ 2; omega
  | s :: S => by
    have h := depth_spots S
    show max (PyData.depth (dS s)) (PyData.depthAll (S.map dS)) ≤ 2
    have h1 : PyData.depth (dS s) ≤ 2 := by cases s <;> simp [dS, PyData.depth, PyData.depthAll]
    omega
theorem shaped_stand (S : Stand) : SeqAt.shaped (.tuple (S.map dS)) = true := by
  unfold SeqAt.shaped
  rw [show PyData.canLay0 (.tuple (S.map dS)) = true from canLay_spots S]
  have := depth_spots S
  have h : PyData.depth (.tuple (S.map dS)) ≤ 64 := by
    simp only [PyData.depth]; omega
  rw [decide_eq_true h]
  rfl
theorem countP_spot (S : Stand) (s : Spot) : (S.map dS).countP (fun z => PyData.eqv z (dS s)) = S.count s := by
  rw [List.countP_map]
  show S.countP _ = S.countP _
  congr 1
  funext z
  show PyData.eqv (dS z) (dS s) = (z == s)
  rw [eqv_spot]
  exact (Bool.beq_eq_decide_eq z s).symm ▸ rfl
theorem any_spot (S : Stand) (s : Spot) : ((S.map dS).any fun z => PyData.eqv z (dS s)) = decide (s ∈ S) := by
  rw [List.any_map]
  induction S with
  | nil => simp
  | cons x S ih =>
    rw [List.any_cons, ih]
    show (PyData.eqv (dS x) (dS s) || _) = _
    rw [eqv_spot]
    by_cases h : x = s
    · subst h; simp
    · have h2 : s ≠ x := fun e => h e.symm
      simp [h, h2]
end
end Slx

set_option Elab.async false
set_option linter.all false
set_option maxRecDepth 100000
set_option maxHeartbeats 4000000
namespace Slx
open PySem PySem.Spec PyProof.Rows L2 Sl
section
variable {P : Program} {w : World} {K : PySem.W.Frag} {mg : Str → Option Value} {base : Heap}
theorem szK {n : Nat} (h : n ≤ 100) : n ≤ sizeLine := by rw [sizeLine_eq]; omega
theorem szlt {n : Nat} (h : n ≤ 100) : n < sizeLine := by rw [sizeLine_eq]; omega
def allEr : List Er := [.lane, .ways, .stand, .move, .place]
/-- the words of a refusal that is handled -/
def spKind (K : PySem.W.Frag) (C : Er → Addr) (p : Addr × Obj) : Sp := fun vs H Q _ => ∃ x : Er, vs = [.ref p.1] ∧ Zc (.ref (C x)) none p.2 ∧ (∃ us, p.2.data = .fields us) ∧ ∀ H' a, Same H H' → H a = none → H' a = some (.lst [.str x.word, .str "value"]) → Q (.ref a) H'
theorem ok_lKind (T : Txt K mg) {L : Addr} {C : Er → Addr} (E : Errs K mg L C) {f : Addr} {fd : FuncData} (F : Fun K "_law_kind" "_law_kind" s_lKind f fd) : FnP P w K mg base CX0 1 f fd ["_law_e"] (spKind K C) := by
  refine fnP_of F sc_lKind (fun p vs H Q E h => by obtain ⟨x, rfl, _⟩ := h; rfl) (fun p cdv A outer s H vs Q XE hot hr h => ?_)
  obtain ⟨x, rfl, hz, hf, q⟩ := h
  have is : ∀ {M : Str → Option Value}, CallR (L2H.cxH CX0 P w K mg base ["_law_e", "_law_some", "_law_word", "_law_fits"] "_law_kind" (defScope s_lKind) f cdv A outer s H XE p) (.builtin "isinstance") (rIsE K (C x) p.1) := call_isP (oe := p.2) (E.at_ x).c hz hf (List.mem_singleton.mpr rfl)
  refine ⟨_, pss_cons (ps_set (i := 1) sc_lKind.nd rfl (.inl rfl) (pe_lst (pa_cons (pe_tupF (pa_cons pe_str (pa_cons (pe_callB (r := rIsE K (C x) p.1) (id := "isinstance") (is (M := mg)) (by rfl) T.b_isinstance (by decide +kernel) (pa_cons (pv 0) (pa_cons (pe_glob (v := .ref (C .lane)) (by rfl) (E.at_ .lane).g rfl) pa_nil))) pa_nil))) (pa_cons (pe_tupF (pa_cons pe_str (pa_cons (pe_callB (r := rIsE K (C x) p.1) (id := "isinstance") (is (M := mg)) (by rfl) T.b_isinstance (by decide +kernel) (pa_cons (pv 0) (pa_cons (pe_glob (v := .ref (C .ways)) (by rfl) (E.at_ .ways).g rfl) pa_nil))) pa_nil))) (pa_cons (pe_tupF (pa_cons pe_str (pa_cons (pe_callB (r := rIsE K (C x) p.1) (id := "isinstance") (is (M := mg)) (by rfl) T.b_isinstance (by decide +kernel) (pa_cons (pv 0) (pa_cons (pe_glob (v := .ref (C .stand)) (by rfl) (E.at_ .stand).g rfl) pa_nil))) pa_nil))) pa_nil)))))
    (pss_cons (ps_set (i := 1) sc_lKind.nd rfl (.inl rfl) (pe_op op_cat (pv 1) (pe_lst (pa_cons (pe_tupF (pa_cons pe_str (pa_cons (pe_callB (r := rIsE K (C x) p.1) (id := "isinstance") (is (M := mg)) (by rfl) T.b_isinstance (by decide +kernel) (pa_cons (pv 0) (pa_cons (pe_glob (v := .ref (C .move)) (by rfl) (E.at_ .move).g rfl) pa_nil))) pa_nil))) (pa_cons (pe_tupF (pa_cons pe_str (pa_cons (pe_callB (r := rIsE K (C x) p.1) (id := "isinstance") (is (M := mg)) (by rfl) T.b_isinstance (by decide +kernel) (pa_cons (pv 0) (pa_cons (pe_glob (v := .ref (C .place)) (by rfl) (E.at_ .place).g rfl) pa_nil))) pa_nil))) pa_nil)))))
    (pss_one (ps_ret (pe_op op_cat (pe_lcH (K := K) (g := gTup K 2 (gCons (gName 2) (gCons (gName 3) gNil))) (own := [("_law_word", 2), ("_law_fits", 3)]) ⟨p, hot, List.mem_singleton.mpr rfl⟩ sc_lKind.nd (pv 1) (blkOk_by (own := [("_law_word", 2), ("_law_fits", 3)]) (N := ["_law_e", "_law_some", "_law_word", "_law_fits"]) (sc := defScope s_lKind) (by decide +kernel)) (fun _ _ _ _ _ p' hot' => pg_tupH (hblk_hot hot') (pgs_cons (pg_name (i := 2) sc_lKind.nd rfl (.inl rfl)) (pgs_cons (pg_name (i := 3) sc_lKind.nd rfl (.inl rfl)) pgs_nil))) (fun _ _ _ _ _ _ _ => pts_one (pt_val (pv 3))) (fun _ _ _ _ _ _ _ => pv 2)) (pe_op op_rep (pe_lst (pa_cons pe_str pa_nil)) (pe_callTy call_int1 (by rfl) T.b_int (by decide +kernel) (pa_cons (pe_callB (r := rIsE K (C x) p.1) (id := "isinstance") (is (M := mg)) (by rfl) T.b_isinstance (by decide +kernel) (pa_cons (pv 0) (pa_cons (pe_ty (T := "ValueError") T.b_ValueError (by decide +kernel)) pa_nil))) pa_nil))))))), ?_⟩
  refine ⟨.ref p.1, rfl, .ref (C .lane), .ref (C .lane), _, rfl, fun _ r => r, E.is x .lane, szK (by simp), nT_q fun H1 t1 s1 q1 => ?_⟩
  refine ⟨.ref p.1, rfl, .ref (C .ways), .ref (C .ways), _, rfl, fun _ r => r, E.is x .ways, szK (by simp), nT_q fun H2 t2 s2 q2 => ?_⟩
  refine ⟨.ref p.1, rfl, .ref (C .stand), .ref (C .stand), _, rfl, fun _ r => r, E.is x .stand, szK (by simp), nT_q fun H3 t3 s3 q3 => ⟨szK (by simp), fun l hl => ?_⟩⟩
  have s4 := same_new (o := .lst [.ref t1, .ref t2, .ref t3]) hl
  have el : (upd H3 l (.lst [.ref t1, .ref t2, .ref t3])) l = some (.lst [.ref t1, .ref t2, .ref t3]) := upd_same
  generalize upd H3 l (.lst [.ref t1, .ref t2, .ref t3]) = H4 at s4 el
  refine ⟨.ref l, rfl, ?_⟩
  refine ⟨.ref p.1, rfl, .ref (C .move), .ref (C .move), _, rfl, fun _ r => r, E.is x .move, szK (by simp), nT_q fun H5 t4 s5 q4 => ?_⟩
  refine ⟨.ref p.1, rfl, .ref (C .place), .ref (C .place), _, rfl, fun _ r => r, E.is x .place, szK (by simp), nT_q fun H6 t5 s6 q5 => ⟨szK (by simp), fun m hm => ?_⟩⟩
  have s7 := same_new (o := .lst [.ref t4, .ref t5]) hm
  have em : (upd H6 m (.lst [.ref t4, .ref t5])) m = some (.lst [.ref t4, .ref t5]) := upd_same
  generalize upd H6 m (.lst [.ref t4, .ref t5]) = H7 at s7 em
  refine ⟨l, m, _, _, rfl, rfl, (s5.trans (s6.trans s7)) _ _ el, em, szK (by simp), fun z hz' => ?_⟩
  have s8 := same_new (o := .lst ([.ref t1, .ref t2, .ref t3] ++ [.ref t4, .ref t5])) hz'
  have ez : (upd H7 z (.lst ([.ref t1, .ref t2, .ref t3] ++ [.ref t4, .ref t5]))) z = some (.lst [.ref t1, .ref t2, .ref t3, .ref t4, .ref t5]) := upd_same
  generalize upd H7 z (.lst ([.ref t1, .ref t2, .ref t3] ++ [.ref t4, .ref t5])) = H8 at s8 ez
  have u7 := s7.trans s8
  have u6 := s6.trans u7
  have u4 := s4.trans (s5.trans u6)
  have u3 := s3.trans u4
  have u2 := s2.trans u3
  have tot := s1.trans u2
  have all5 : ∀ (i : Nat) (y : V), [V.ref t1, .ref t2, .ref t3, .ref t4, .ref t5][i]? = some y → ∃ (e : Er) (t : Addr), allEr[i]? = some e ∧ y = .ref t ∧ TupAt H8 t [.str e.word, .bl (decide (x = e))] := fun i y h => by
    match i, h with
    | 0, h => cases h; exact ⟨.lane, t1, rfl, rfl, Ti.of u2 _ _ q1⟩
    | 1, h => cases h; exact ⟨.ways, t2, rfl, rfl, Ti.of u3 _ _ q2⟩
    | 2, h => cases h; exact ⟨.stand, t3, rfl, rfl, Ti.of u4 _ _ q3⟩
    | 3, h => cases h; exact ⟨.move, t4, rfl, rfl, Ti.of u6 _ _ q4⟩
    | 4, h => cases h; exact ⟨.place, t5, rfl, rfl, Ti.of u7 _ _ q5⟩
    | n + 5, h => simp at h
  refine ⟨.ref z, rfl, z, _, rfl, .inl (.inl ez), fun D hD => ⟨fun i G => Same H8 G ∧ G D = some (.lst (((allEr.take i).filter fun e => decide (x = e)).map fun e => V.str e.word)), ⟨same_new hD, upd_same⟩, fun i G w => .inl (.inl (w.1 _ _ ez)), fun i G y hy w => ?_, fun G w => ?_⟩⟩
  · obtain ⟨e, t, he, rfl, tp⟩ := all5 i y hy
    obtain ⟨sG, eG⟩ := w
    have tg := Ti.of sG _ _ tp
    have tk : allEr.take (i + 1) = allEr.take i ++ [e] := by rw [List.take_add_one, he]; rfl
    refine ⟨t, _, rfl, tg.sq, rfl, _, _, rfl, _, _, rfl, rfl, rfl, .bl (decide (x = e)), rfl, _, rfl, ?_⟩
    by_cases hx : x = e
    · rw [decide_eq_true hx]
      refine iteT ⟨.str e.word, rfl, _, eG, szlt ?_, same_mut sG hD, ?_⟩
      · rw [List.length_map]
        have h1 := List.length_filter_le (fun e => decide (x = e)) (allEr.take i)
        have h2 : (allEr.take i).length ≤ 5 := by rw [List.length_take]; exact Nat.min_le_right _ _
        omega
      · rw [tk, List.filter_append, List.map_append, show ([e].filter fun e => decide (x = e)) = [e] by simp [hx]]
        exact upd_same
    · rw [decide_eq_false hx]
      refine iteF ⟨sG, ?_⟩
      rw [tk, List.filter_append, List.map_append, show ([e].filter fun e => decide (x = e)) = [] by simp [hx]]
      simpa using eG
  · obtain ⟨sG, eG⟩ := w
    have e1 : (((allEr.take [V.ref t1, .ref t2, .ref t3, .ref t4, .ref t5].length).filter fun e => decide (x = e)).map fun e => V.str e.word) = [V.str x.word] := by cases x <;> rfl
    rw [e1] at eG
    refine ⟨szK (by simp), fun v hv => ?_⟩
    have s9 := same_new (o := .lst [.str "value"]) hv
    refine ⟨.ref p.1, rfl, .ty "ValueError", .type "ValueError", true, rfl, (fun _ r => r), (E.at_ x).v, .inr ⟨true, rfl, ?_⟩⟩
    refine ⟨v, 1, _, rfl, rfl, upd_same, by decide, by decide, szK (by simp), fun r hr' => ?_⟩
    have s10 := same_new (o := .lst (List.replicate (1 : Int).toNat [V.str "value"]).flatten) hr'
    refine ⟨D, r, _, _, rfl, rfl, (s9.trans s10) _ _ eG, upd_same, szK (by simp), fun a' ha' => ?_⟩
    have fin := (tot.trans sG).trans ((s9.trans s10).trans (same_new (o := .lst ([V.str x.word] ++ (List.replicate (1 : Int).toNat [V.str "value"]).flatten)) ha'))
    exact q _ a' fin (((tot.trans sG).trans (s9.trans s10)).free ha') upd_same
end
end Slx

set_option Elab.async false
set_option linter.all false
set_option maxRecDepth 100000
set_option maxHeartbeats 4000000
namespace Slx
open PySem PySem.Spec PyProof.Rows L2 Sl
section
variable {P : Program} {w : World} {K : PySem.W.Frag} {mg : Str → Option Value} {base : Heap}
theorem iteT' {b : Bool} {A B : Prop} (e : b = true) (h : A) : if b = true then A else B := by subst e; exact iteT h
theorem iteF' {b : Bool} {A B : Prop} (e : b = false) (h : B) : if b = true then A else B := by subst e; exact iteF h
theorem two_size : 2 ≤ sizeLine := by decide
theorem one_size : 1 ≤ sizeLine := by decide
def spIsWay : Sp := fun vs H Q _ => ∃ b, vs = [.str (wS b)] ∧ ∀ H', Same H H' → Q (.bl true) H'
theorem ok_isWay (T : Txt K mg) : DefOk P w K mg base 1 "is_way" ["thing"] spIsWay := by
  refine T.f_isWay.ok sc_isWay (fun vs H Q E h => by obtain ⟨b, rfl, _⟩ := h; rfl) (fun f cdv A outer s H vs Q E hr h => ?_)
  obtain ⟨b, rfl, q⟩ := h
  refine ⟨_, (pss_one (ps_ret (pe_and (pe_cmpR op_isTyB (pe_callTy call_type1 (by rfl) T.b_type (by decide +kernel) (pa_cons (pv 0) pa_nil)) (pe_ty (T := "str") T.b_str (by decide +kernel)) (nomark _)) (pe_one (pe_cmpR (r := rIn K false) op_in_seq (pv 0) (pe_tupF (pa_cons pe_str (pa_cons pe_str pa_nil))) (by rfl)))))), ?_⟩
  refine ⟨.str (wS b), rfl, .str (wS b), "str", rfl, .str _, "str", "str", rfl, rfl, _, rfl, iteT' (decide_eq_true rfl) ⟨.str (wS b), rfl, two_size, fun p o hp ho => ⟨p, _, rfl, .inr (TupAt.new ho).sq, rfl, rfl, ?_⟩⟩⟩
  have e : (if false then !inV (.str (wS b)) [.str "right", .str "left"] else inV (.str (wS b)) [.str "right", .str "left"]) = true := by cases b <;> decide
  rw [e]
  exact q _ (same_new hp)
def spMostAt (K : PySem.W.Frag) : Sp := fun vs H Q _ => ∃ a ln p sp, vs = [.ref a, .ref p] ∧ LaneAt K H a ln ∧ SpotAt H p sp ∧ okSpot ln sp ∧ Q (.int (mostAt ln sp)) H
theorem at0 {α : Type} {x : α} {xs : List α} : atI (x :: xs) 0 = some x := atI_nat (j := 0) rfl
theorem at1 {α : Type} {x y : α} {xs : List α} : atI (x :: y :: xs) 1 = some y := atI_nat (j := 1) rfl
theorem lane_at {ln : List Int} {p : Nat} (h : p < ln.length) : atI (ln.map V.int) (p : Int) = some (.int (ln.getD p 0)) := by
  refine atI_nat ?_
  rw [List.getElem?_map, getD_lt (d := 0) h]
  rfl
theorem ok_mostAt (T : Txt K mg) : DefOk P w K mg base 1 "most_at" ["lane", "spot"] (spMostAt K) := by
  refine T.f_mostAt.ok sc_mostAt (fun vs H Q E h => by obtain ⟨a, ln, p, sp, rfl, _⟩ := h; rfl) (fun f cdv A outer s H vs Q E hr h => ?_)
  obtain ⟨a, ln, p, sp, rfl, hL, hS, ok, q⟩ := h
  refine ⟨_, (pss_cons (ps_if (pt_cmpR op_eq (pe_ix (r := rIxT K) ix_tup (pv 1) pe_int (fun _ _ => rfl)) pe_str (nomark _)) (pss_one (ps_ret (pe_ix (r := rIxL K) ix_list (pv 0) (pe_ix (r := rIxT K) ix_tup (pv 1) pe_int (fun _ _ => rfl)) (fun _ _ => rfl)))) pss_nil)
      (pss_one (ps_ret (pe_ifExp (pt_cmpR op_eq (pe_ix (r := rIxT K) ix_tup (pv 1) pe_int (fun _ _ => rfl)) pe_str (nomark _)) pe_int (pe_cint T.c_MOST_TRAINS))))), ?_⟩
  have hT : SqT K H p (vS sp) := hS.sq
  cases sp with
  | side k =>
    refine ⟨.ref p, rfl, p, _, 0, _, rfl, rfl, hT, at0, rfl, _, rfl, iteT' (decide_eq_true rfl) ?_⟩
    exact ⟨.ref a, rfl, .ref p, rfl, p, _, 1, _, rfl, rfl, hT, at1, a, _, (k : Int), _, rfl, rfl, hL, lane_at ok, q⟩
  | lane k =>
    refine ⟨.ref p, rfl, p, _, 0, _, rfl, rfl, hT, at0, rfl, _, rfl, iteF' (decide_eq_false (by decide)) ?_⟩
    exact ⟨.ref p, rfl, p, _, 0, _, rfl, rfl, hT, at0, rfl, _, rfl, iteT' (decide_eq_true rfl) q⟩
  | out =>
    refine ⟨.ref p, rfl, p, _, 0, _, rfl, rfl, hT, at0, rfl, _, rfl, iteF' (decide_eq_false (by decide)) ?_⟩
    exact ⟨.ref p, rfl, p, _, 0, _, rfl, rfl, hT, at0, rfl, _, rfl, iteF' (decide_eq_false (by decide)) q⟩
/-- a list of truths, all of one rule -/
theorem bls_of {ys : List V} {f : Nat → Bool} {n : Nat} (hl : ys.length = n) (h : ∀ (i : Nat) (y : V), ys[i]? = some y → y = V.bl (f i)) : ys = ((List.range n).map f).map V.bl := by
  refine List.ext_getElem? fun i => ?_
  by_cases hi : i < n
  · have e : ys[i]? = some (ys[i]'(by omega)) := List.getElem?_eq_getElem (by omega)
    rw [e, h i _ e]
    simp [hi]
  · rw [List.getElem?_eq_none (by omega), List.getElem?_eq_none (by simp; omega)]
theorem all_true {n : Nat} {f : Nat → Bool} (h : ∀ i, i < n → f i = true) : ((List.range n).map f).all id = true := by
  simp only [List.all_map, List.all_eq_true, List.mem_range]
  exact h
theorem any_false {n : Nat} {f : Nat → Bool} (h : ∀ i, i < n → f i = false) : ((List.range n).map f).any id = false := by
  simp only [List.any_map, List.any_eq_false, List.mem_range]
  intro i hi
  simp [h i hi]
def spNeedLane (K : PySem.W.Frag) : Sp := fun vs H Q _ => ∃ a ln, vs = [.ref a] ∧ LaneAt K H a ln ∧ OkLane ln ∧ ∀ H', Same H H' → Q (.bl true) H'
theorem ok_needLane (T : Txt K mg) : DefOk P w K mg base 2 "need_lane" ["lane"] (spNeedLane K) := by
  have D_isNumber : DefOk P w K mg base 1 "is_number" ["thing", "least", "most"] (spIsNumber K) := ok_isNumber T
  refine T.f_needLane.ok sc_needLane (fun vs H Q E h => by obtain ⟨a, ln, rfl, _⟩ := h; rfl) (fun f cdv A outer s H vs Q E hr h => ?_)
  obtain ⟨a, ln, rfl, hL, ok, q⟩ := h
  have h1 := ok.one
  have h8 := ok.most
  refine ⟨_, (pss_cons (ps_if (PW.pt (pw_or (pt_cmpR op_notTyB (pe_callTy call_type1 (by rfl) T.b_type (by decide +kernel) (pa_cons (pv 0) pa_nil)) (pe_ty (T := "list") T.b_list (by decide +kernel)) (nomark _)) (pw_or1 (pt_not (pt_chain op_le op_le pe_int (pe_callB call_len_seq (by rfl) T.b_len (by decide +kernel) (pa_cons (pv 0) pa_nil)) (pe_cint T.c_MOST_PLACES)))))) (pss_one ps_never) pss_nil)
      (pss_cons (ps_if (pt_not (pt_val (pe_callB (cr_all rfl) (by rfl) T.b_all (by decide +kernel) (pa_cons (pe_lc (g := gName 1) (own := [("held", 1)]) rfl sc_needLane.nd (pi_listK (K := K) (pv 0)) (blkOk_by (own := [("held", 1)]) (N := ["lane", "held"]) (sc := defScope s_needLane) (by decide +kernel)) (fun _ _ _ _ _ => (pg_name (i := 1) sc_needLane.nd rfl (.inl rfl))) (fun _ _ _ _ _ => pts_nil) (fun _ _ _ _ _ => (pe_def D_isNumber (hr.mono (by omega)) (pa_cons (pv 1) (pa_cons pe_int (pa_cons (pe_cint T.c_MOST_HELD) pa_nil)))))) pa_nil)))) (pss_one ps_never) pss_nil)
      (pss_one (ps_ret pe_bl)))), ?_⟩
  refine ⟨.ref a, rfl, .ref a, "list", rfl, .lst hL, "list", "list", rfl, rfl, _, rfl, iteNS rfl ?_⟩
  refine ⟨.ref a, rfl, a, _, rfl, .inl hL, 1, _, rfl, rfl, _, rfl, iteT' (decide_eq_true (by simp; omega)) ⟨_, 8, rfl, rfl, _, rfl, iteNS (by simp; omega) ?_⟩⟩
  refine ⟨.ref a, rfl, a, rfl, ⟨_, hL⟩, fun D hD => ?_⟩
  refine lc_map (walk_list (K := K) (a := a) (xs := ln.map V.int)) (fun _ y _ => y = .bl true) (fun _ _ _ _ _ e => e) (by rw [List.length_map]; exact Nat.lt_of_le_of_lt h8 (by decide)) hD (fun H' s => s.seq hL)
    (fun i x H1 H2 k hi s1 y hk => ?_) (fun H1 ys s1 e1 l1 el => ?_)
  · obtain ⟨rfl, ex⟩ := y
    rw [List.getElem?_map] at ex
    cases en : ln[i]? with
    | none => rw [en] at ex; cases ex
    | some n =>
      rw [en] at ex
      cases ex
      have hn := ok.held n (mem_of_some en)
      refine ⟨rfl, .int n, rfl, .int n, "int", 0, 4, rfl, .int n, hk _ _ (Same.refl _) ?_⟩
      show V.bl (decide (0 ≤ n) && decide (n ≤ 4)) = .bl true
      rw [decide_eq_true hn.1, decide_eq_true hn.2]
      rfl
  · have e := bls_of (f := fun _ => true) l1 el
    subst e
    refine ⟨D, _, rfl, .inl (.inl e1), _, rfl, ?_⟩
    rw [all_true (fun _ _ => rfl)]
    exact iteF (q _ s1)
def spNeedWays (K : PySem.W.Frag) : Sp := fun vs H Q _ => ∃ a wy, vs = [.ref a] ∧ WaysAt K H a wy ∧ 1 ≤ wy.length ∧ wy.length ≤ 6 ∧ ∀ H', Same H H' → Q (.bl true) H'
theorem ok_needWays (T : Txt K mg) : DefOk P w K mg base 2 "need_ways" ["ways"] (spNeedWays K) := by
  have D_isWay : DefOk P w K mg base 1 "is_way" ["thing"] spIsWay := ok_isWay T
  refine T.f_needWays.ok sc_needWays (fun vs H Q E h => by obtain ⟨a, ln, rfl, _⟩ := h; rfl) (fun f cdv A outer s H vs Q E hr h => ?_)
  obtain ⟨a, wy, rfl, hL, h1, h8, q⟩ := h
  refine ⟨_, (pss_cons (ps_if (PW.pt (pw_or (pt_cmpR op_notTyB (pe_callTy call_type1 (by rfl) T.b_type (by decide +kernel) (pa_cons (pv 0) pa_nil)) (pe_ty (T := "list") T.b_list (by decide +kernel)) (nomark _)) (pw_or1 (pt_not (pt_chain op_le op_le pe_int (pe_callB call_len_seq (by rfl) T.b_len (by decide +kernel) (pa_cons (pv 0) pa_nil)) (pe_cint T.c_MOST_TRAINS)))))) (pss_one ps_never) pss_nil)
      (pss_cons (ps_if (pt_not (pt_val (pe_callB (cr_all rfl) (by rfl) T.b_all (by decide +kernel) (pa_cons (pe_lc (g := gName 1) (own := [("way", 1)]) rfl sc_needWays.nd (pi_listK (K := K) (pv 0)) (blkOk_by (own := [("way", 1)]) (N := ["ways", "way"]) (sc := defScope s_needWays) (by decide +kernel)) (fun _ _ _ _ _ => (pg_name (i := 1) sc_needWays.nd rfl (.inl rfl))) (fun _ _ _ _ _ => pts_nil) (fun _ _ _ _ _ => (pe_def D_isWay (hr.mono (by omega)) (pa_cons (pv 1) pa_nil)))) pa_nil)))) (pss_one ps_never) pss_nil)
      (pss_one (ps_ret pe_bl)))), ?_⟩
  refine ⟨.ref a, rfl, .ref a, "list", rfl, .lst hL, "list", "list", rfl, rfl, _, rfl, iteNS rfl ?_⟩
  refine ⟨.ref a, rfl, a, _, rfl, .inl hL, 1, _, rfl, rfl, _, rfl, iteT' (decide_eq_true (by simp; omega)) ⟨_, 6, rfl, rfl, _, rfl, iteNS (by simp; omega) ?_⟩⟩
  refine ⟨.ref a, rfl, a, rfl, ⟨_, hL⟩, fun D hD => ?_⟩
  refine lc_map (walk_list (K := K) (a := a) (xs := wy.map fun b => V.str (wS b))) (fun _ y _ => y = .bl true) (fun _ _ _ _ _ e => e) (by rw [List.length_map]; exact Nat.lt_of_le_of_lt h8 (by decide)) hD (fun H' s => s.seq hL)
    (fun i x H1 H2 k hi s1 y hk => ?_) (fun H1 ys s1 e1 l1 el => ?_)
  · obtain ⟨rfl, ex⟩ := y
    rw [List.getElem?_map] at ex
    cases en : wy[i]? with
    | none => rw [en] at ex; cases ex
    | some b =>
      rw [en] at ex
      cases ex
      exact ⟨rfl, .str (wS b), rfl, b, rfl, fun H' s2 => hk _ _ s2 rfl⟩
  · have e := bls_of (f := fun _ => true) l1 el
    subst e
    refine ⟨D, _, rfl, .inl (.inl e1), _, rfl, ?_⟩
    rw [all_true (fun _ _ => rfl)]
    exact iteF (q _ s1)
def spIsSpot (K : PySem.W.Frag) : Sp := fun vs H Q _ => ∃ a ln p sp, vs = [.ref a, .ref p] ∧ LaneAt K H a ln ∧ SpotAt H p sp ∧ okSpot ln sp ∧ ∀ H', Same H H' → Q (.bl true) H'
theorem ok_isSpot (T : Txt K mg) : DefOk P w K mg base 2 "is_spot" ["lane", "thing"] (spIsSpot K) := by
  have D_isNumber : DefOk P w K mg base 1 "is_number" ["thing", "least", "most"] (spIsNumber K) := ok_isNumber T
  refine T.f_isSpot.ok sc_isSpot (fun vs H Q E h => by obtain ⟨a, ln, p, sp, rfl, _⟩ := h; rfl) (fun f cdv A outer s H vs Q E hr h => ?_)
  obtain ⟨a, ln, p, sp, rfl, hL, hS, ok, q⟩ := h
  refine ⟨_, (pss_cons (ps_if (PW.pt (pw_or (pt_cmpR op_notTyB (pe_callTy call_type1 (by rfl) T.b_type (by decide +kernel) (pa_cons (pv 1) pa_nil)) (pe_ty (T := "tuple") T.b_tuple (by decide +kernel)) (nomark _)) (pw_or1 (pt_cmpR (r := rIn K true) op_notIn_seq (pe_callB call_len_seq (by rfl) T.b_len (by decide +kernel) (pa_cons (pv 1) pa_nil)) (pe_tupF (pa_cons pe_int (pa_cons pe_int pa_nil))) (by rfl))))) (pss_one (ps_ret pe_bl)) pss_nil)
      (pss_cons (ps_set (i := 2) sc_isSpot.nd rfl (.inl rfl) (pe_ix (r := rIxT K) ix_tup (pv 1) pe_int (fun _ _ => rfl)))
      (pss_cons (ps_if (pt_cmpR op_notTyB (pe_callTy call_type1 (by rfl) T.b_type (by decide +kernel) (pa_cons (pv 2) pa_nil)) (pe_ty (T := "str") T.b_str (by decide +kernel)) (nomark _)) (pss_one (ps_ret pe_bl)) pss_nil)
      (pss_cons (ps_if (pt_cmpR op_eq (pe_callB call_len_seq (by rfl) T.b_len (by decide +kernel) (pa_cons (pv 1) pa_nil)) pe_int (nomark _)) (pss_one (ps_ret (pe_cmpR op_eq (pv 2) pe_str (nomark _)))) pss_nil)
      (pss_one (ps_ret (pe_and (pe_cmpR (r := rIn K false) op_in_seq (pv 2) (pe_tupF (pa_cons pe_str (pa_cons pe_str pa_nil))) (by rfl)) (pe_one (pe_def D_isNumber (hr.mono (by omega)) (pa_cons (pe_ix (r := rIxT K) ix_tup (pv 1) pe_int (fun _ _ => rfl)) (pa_cons pe_int (pa_cons (pe_op op_sub (pe_callB call_len_seq (by rfl) T.b_len (by decide +kernel) (pa_cons (pv 0) pa_nil)) pe_int) pa_nil)))))))))))), ?_⟩
  have hT : SqT K H p (vS sp) := hS.sq
  refine ⟨.ref p, rfl, .ref p, "tuple", rfl, .tup hT, "tuple", "tuple", rfl, rfl, _, rfl, iteNS rfl ?_⟩
  refine ⟨.ref p, rfl, p, _, rfl, .inr hT, two_size, fun t o ht ho => ⟨t, _, rfl, .inr (TupAt.new ho).sq, rfl, rfl, false, ?_, iteF ?_⟩⟩
  · cases sp <;> rfl
  have s1 : Same H (upd H t (.frz o (.tup [.int 1, .int 2]))) := same_new ht
  have hS1 : SpotAt (upd H t (.frz o (.tup [.int 1, .int 2]))) p sp := Ti.of s1 _ _ hS
  have hT1 : SqT K (upd H t (.frz o (.tup [.int 1, .int 2]))) p (vS sp) := hS1.sq
  have hL1 : LaneAt K (upd H t (.frz o (.tup [.int 1, .int 2]))) a ln := s1.seq hL
  have num : ∀ k : Nat, k < ln.length → isNum (.int (k : Int)) 0 ((ln.length : Int) - 1) = true := fun k hk => by
    show (decide ((0 : Int) ≤ k) && decide ((k : Int) ≤ ln.length - 1)) = true
    rw [decide_eq_true (by omega), decide_eq_true (by omega)]
    rfl
  cases sp with
  | out =>
    refine ⟨.ref p, rfl, p, _, 0, _, rfl, rfl, hT1, at0, ?_⟩
    refine ⟨.str "out", rfl, .str "out", "str", rfl, .str _, "str", "str", rfl, rfl, _, rfl, iteNS rfl ?_⟩
    refine ⟨.ref p, rfl, p, _, rfl, .inr hT1, rfl, _, rfl, iteT' rfl ?_⟩
    exact ⟨.str "out", rfl, rfl, q _ s1⟩
  | lane k =>
    refine ⟨.ref p, rfl, p, _, 0, _, rfl, rfl, hT1, at0, ?_⟩
    refine ⟨.str "lane", rfl, .str "lane", "str", rfl, .str _, "str", "str", rfl, rfl, _, rfl, iteNS rfl ?_⟩
    refine ⟨.ref p, rfl, p, _, rfl, .inr hT1, rfl, _, rfl, iteF' rfl ?_⟩
    refine ⟨.str "lane", rfl, two_size, fun u o2 hu ho2 => ⟨u, _, rfl, .inr (TupAt.new ho2).sq, rfl, rfl, true, by rfl, iteT ?_⟩⟩
    have s2 := s1.trans (same_new (o := .frz o2 (.tup [.str "lane", .str "side"])) hu)
    refine ⟨.ref p, rfl, p, _, 1, _, rfl, rfl, (Ti.of s2 _ _ hS).sq, at1, .ref a, rfl, a, _, rfl, .inl (s2.seq hL), (ln.map V.int).length, 1, rfl, rfl, .int (k : Int), "int", 0, ((ln.map V.int).length : Int) - 1, rfl, .int _, ?_⟩
    rw [List.length_map, num k ok]
    exact q _ s2
  | side k =>
    refine ⟨.ref p, rfl, p, _, 0, _, rfl, rfl, hT1, at0, ?_⟩
    refine ⟨.str "side", rfl, .str "side", "str", rfl, .str _, "str", "str", rfl, rfl, _, rfl, iteNS rfl ?_⟩
    refine ⟨.ref p, rfl, p, _, rfl, .inr hT1, rfl, _, rfl, iteF' rfl ?_⟩
    refine ⟨.str "side", rfl, two_size, fun u o2 hu ho2 => ⟨u, _, rfl, .inr (TupAt.new ho2).sq, rfl, rfl, true, by rfl, iteT ?_⟩⟩
    have s2 := s1.trans (same_new (o := .frz o2 (.tup [.str "lane", .str "side"])) hu)
    refine ⟨.ref p, rfl, p, _, 1, _, rfl, rfl, (Ti.of s2 _ _ hS).sq, at1, .ref a, rfl, a, _, rfl, .inl (s2.seq hL), (ln.map V.int).length, 1, rfl, rfl, .int (k : Int), "int", 0, ((ln.map V.int).length : Int) - 1, rfl, .int _, ?_⟩
    rw [List.length_map, num k ok]
    exact q _ s2
theorem stand_size {ln : List Int} {wy : List Bool} {S : Stand} {H : Hp} {xs : List V} (o : OkStand ln wy S) (i : ImAll H xs (S.map dS)) : xs.length ≤ 6 := by
  rw [StandAt.len i, o.len]
  exact o.most
/-- what is asked of a stand by itself -/
structure OkSpots (ln : List Int) (S : Stand) : Prop where
  one : 1 ≤ S.length
  most : S.length ≤ 6
  spot : ∀ s ∈ S, okSpot ln s
  room : ∀ s ∈ S, (S.count s : Int) ≤ mostAt ln s
theorem _root_.Sl.OkStand.spots {ln : List Int} {wy : List Bool} {S : Stand} (o : OkStand ln wy S) : OkSpots ln S :=
  ⟨by rw [o.len]; exact o.one, by rw [o.len]; exact o.most, o.spot, o.room⟩
def spNeedSpots (K : PySem.W.Frag) : Sp := fun vs H Q _ => ∃ a c ln S, vs = [.ref a, .ref c] ∧ LaneAt K H a ln ∧ StandAt H c S ∧ OkSpots ln S ∧ ∀ H', Same H H' → Q (.bl true) H'
theorem ok_needSpots (T : Txt K mg) : DefOk P w K mg base 3 "need_spots" ["lane", "stand"] (spNeedSpots K) := by
  have D_isSpot : DefOk P w K mg base 2 "is_spot" ["lane", "thing"] (spIsSpot K) := ok_isSpot T
  have D_mostAt : DefOk P w K mg base 1 "most_at" ["lane", "spot"] (spMostAt K) := ok_mostAt T
  refine T.f_needSpots.ok sc_needSpots (fun vs H Q E h => by obtain ⟨a, c, ln, S, rfl, _⟩ := h; rfl) (fun f cdv A outer s H vs Q E hr h => ?_)
  obtain ⟨a, c, ln, S, rfl, hL, hS, ok, q⟩ := h
  have o1 := ok.one
  have o6 := ok.most
  refine ⟨_, (pss_cons (ps_if (PW.pt (pw_or (pt_cmpR op_notTyB (pe_callTy call_type1 (by rfl) T.b_type (by decide +kernel) (pa_cons (pv 1) pa_nil)) (pe_ty (T := "tuple") T.b_tuple (by decide +kernel)) (nomark _)) (pw_or1 (pt_not (pt_chain op_le op_le pe_int (pe_callB call_len_seq (by rfl) T.b_len (by decide +kernel) (pa_cons (pv 1) pa_nil)) (pe_cint T.c_MOST_TRAINS)))))) (pss_one ps_never) pss_nil)
      (pss_cons (ps_if (pt_not (pt_val (pe_callB (cr_all rfl) (by rfl) T.b_all (by decide +kernel) (pa_cons (pe_lc (g := gName 2) (own := [("spot", 2)]) rfl sc_needSpots.nd (pi_tupK (K := K) (pv 1)) (blkOk_by (own := [("spot", 2)]) (N := ["lane", "stand", "spot"]) (sc := defScope s_needSpots) (by decide +kernel)) (fun _ _ _ _ _ => (pg_name (i := 2) sc_needSpots.nd rfl (.inl rfl))) (fun _ _ _ _ _ => pts_nil) (fun _ _ _ _ _ => (pe_def D_isSpot (hr.mono (by omega)) (pa_cons (pv 0) (pa_cons (pv 2) pa_nil))))) pa_nil)))) (pss_one ps_never) pss_nil)
      (pss_cons (ps_if (pt_val (pe_callB (cr_any rfl) (by rfl) T.b_any (by decide +kernel) (pa_cons (pe_lc (g := gName 2) (own := [("spot", 2)]) rfl sc_needSpots.nd (pi_tupK (K := K) (pv 1)) (blkOk_by (own := [("spot", 2)]) (N := ["lane", "stand", "spot"]) (sc := defScope s_needSpots) (by decide +kernel)) (fun _ _ _ _ _ => (pg_name (i := 2) sc_needSpots.nd rfl (.inl rfl))) (fun _ _ _ _ _ => pts_nil) (fun _ _ _ _ _ => (pe_cmpR op_gt (pe_tm PySem.F.plainAttrs_tuple PySem.F.slot_tuple_count PySem.F.type_tuple_count (r := rCountT K) (mt_countT (hu65 hr)) (pv 1) (pa_cons (pv 2) pa_nil)) (pe_def D_mostAt (hr.mono (by omega)) (pa_cons (pv 0) (pa_cons (pv 2) pa_nil))) (nomark _)))) pa_nil))) (pss_one ps_never) pss_nil)
      (pss_one (ps_ret pe_bl))))), ?_⟩
  obtain ⟨xs, ec, im⟩ := hS
  have hT2 : SqT K H c xs := ec.sq
  have zl := StandAt.len im
  have z6 : xs.length ≤ 6 := by omega
  refine ⟨.ref c, rfl, .ref c, "tuple", rfl, .tup hT2, "tuple", "tuple", rfl, rfl, _, rfl, iteNS rfl ?_⟩
  refine ⟨.ref c, rfl, c, _, rfl, .inr hT2, 1, _, rfl, rfl, _, rfl, iteT' (decide_eq_true (by omega)) ⟨_, 6, rfl, rfl, _, rfl, iteNS (by omega) ?_⟩⟩
  refine ⟨.ref c, rfl, c, rfl, ⟨_, hT2⟩, fun D hD => ?_⟩
  refine lc_map (walk_tup (K := K) (a := c) (xs := xs)) (fun _ y _ => y = .bl true) (fun _ _ _ _ _ e => e) (Nat.lt_of_le_of_lt z6 (by decide)) hD (fun H' s3 => (Ti.of s3 _ _ ec).sq)
    (fun i x H3 H4 k hi s3 y hk => ?_) (fun H3 ys s3 e3 l3 el => ?_)
  · obtain ⟨rfl, ex⟩ := y
    obtain ⟨p, sp, rfl, es, hs⟩ := stand_getV im ex
    exact ⟨rfl, .ref a, rfl, .ref p, rfl, a, ln, p, sp, rfl, s3.seq hL, Ti.of s3 _ _ hs, ok.spot sp (mem_of_some es), fun H' s4 => hk _ _ s4 rfl⟩
  have e := bls_of (f := fun _ => true) l3 el
  subst e
  refine ⟨D, _, rfl, .inl (.inl e3), _, rfl, ?_⟩
  rw [all_true (fun _ _ => rfl)]
  refine iteF ?_
  have hT3 : SqT K H3 c xs := (Ti.of s3 _ _ ec).sq
  refine ⟨.ref c, rfl, c, rfl, ⟨_, hT3⟩, fun D2 hD2 => ?_⟩
  refine lc_map (walk_tup (K := K) (a := c) (xs := xs)) (fun _ y _ => y = .bl false) (fun _ _ _ _ _ e => e) (Nat.lt_of_le_of_lt z6 (by decide)) hD2 (fun H' s4 => (Ti.of (s3.trans s4) _ _ ec).sq)
    (fun i x H4 H5 k hi s4 y hk => ?_) (fun H4 ys s4 e4 l4 el2 => ?_)
  · obtain ⟨rfl, ex⟩ := y
    obtain ⟨p, sp, rfl, es, hs⟩ := stand_getV im ex
    have s14 := s3.trans s4
    have hsm := mem_of_some es
    refine ⟨rfl, .ref c, rfl, (Ti.of s14 _ _ ec).tm, .ref p, rfl, .ref p, dS sp, S.map dS, rfl, (Im.tup (Ti.of s14 _ _ ec) (im.mono (Ti.of s14))).dp, (SpotAt.im (Ti.of s14 _ _ hs)).dp, shaped_stand S, shaped_spot sp, ?_⟩
    refine ⟨.ref a, rfl, .ref p, rfl, a, ln, p, sp, rfl, s14.seq hL, Ti.of s14 _ _ hs, ok.spot sp hsm, _, _, rfl, rfl, ?_⟩
    rw [countP_spot]
    have hr := ok.room sp hsm
    exact hk _ _ (Same.refl _) (congrArg V.bl (decide_eq_false (by omega)))
  · have e := bls_of (f := fun _ => false) l4 el2
    subst e
    refine ⟨D2, _, rfl, .inl (.inl e4), _, rfl, ?_⟩
    rw [any_false (fun _ _ => rfl)]
    exact iteF (q _ (s3.trans s4))
def spNeedStand (K : PySem.W.Frag) : Sp := fun vs H Q _ => ∃ a b c ln wy S, vs = [.ref a, .ref b, .ref c] ∧ LaneAt K H a ln ∧ WaysAt K H b wy ∧ StandAt H c S ∧ OkStand ln wy S ∧ ∀ H', Same H H' → Q (.bl true) H'
theorem ok_needStand (T : Txt K mg) : DefOk P w K mg base 4 "need_stand" ["lane", "ways", "stand"] (spNeedStand K) := by
  have D_needLane : DefOk P w K mg base 2 "need_lane" ["lane"] (spNeedLane K) := ok_needLane T
  have D_needWays : DefOk P w K mg base 2 "need_ways" ["ways"] (spNeedWays K) := ok_needWays T
  have D_needSpots : DefOk P w K mg base 3 "need_spots" ["lane", "stand"] (spNeedSpots K) := ok_needSpots T
  refine T.f_needStand.ok sc_needStand (fun vs H Q E h => by obtain ⟨a, b, c, ln, wy, S, rfl, _⟩ := h; rfl) (fun f cdv A outer s H vs Q E hr h => ?_)
  obtain ⟨a, b, c, ln, wy, S, rfl, hL, hW, hS, ok, q⟩ := h
  refine ⟨_, (pss_cons (ps_expr (pe_def D_needLane (hr.mono (by omega)) (pa_cons (pv 0) pa_nil)))
      (pss_cons (ps_expr (pe_def D_needWays (hr.mono (by omega)) (pa_cons (pv 1) pa_nil)))
      (pss_cons (ps_expr (pe_def D_needSpots (hr.mono (by omega)) (pa_cons (pv 0) (pa_cons (pv 2) pa_nil))))
      (pss_cons (ps_if (pt_cmpR op_ne (pe_callB call_len_seq (by rfl) T.b_len (by decide +kernel) (pa_cons (pv 2) pa_nil)) (pe_callB call_len_seq (by rfl) T.b_len (by decide +kernel) (pa_cons (pv 1) pa_nil)) (nomark _)) (pss_one ps_never) pss_nil)
      (pss_one (ps_ret pe_bl)))))), ?_⟩
  refine ⟨.ref a, rfl, a, ln, rfl, hL, ok.lane, fun H1 s1 => ?_⟩
  refine ⟨.ref b, rfl, b, wy, rfl, s1.seq hW, ok.one, ok.most, fun H2 s2 => ?_⟩
  have s12 := s1.trans s2
  refine ⟨.ref a, rfl, .ref c, rfl, a, c, ln, S, rfl, s12.seq hL, hS.mono (Ti.of s12), ok.spots, fun H3 s3 => ?_⟩
  have s13 := s12.trans s3
  obtain ⟨xs, ec, im⟩ := hS
  have zl := StandAt.len im
  exact ⟨.ref c, rfl, c, _, rfl, .inr (Ti.of s13 _ _ ec).sq, .ref b, rfl, b, _, rfl, .inl (s13.seq hW), rfl, _, rfl, iteF' (by rw [List.length_map, zl, ok.len]; simp) (q _ s13)⟩
end
end Slx

set_option Elab.async false
set_option linter.all false
set_option maxRecDepth 100000
set_option maxHeartbeats 4000000
namespace Slx
open PySem PySem.Spec PyProof.Rows L2 Sl
def dW : Wd → Str
  | .go => "go"
  | .aside => "aside"
  | .on => "on"
def dM (m : Mv) : PyData := .tuple [.str (dW m.1), .int m.2]
def dCh (c : Mv × Spot) : PyData := .tuple [dM c.1, dS c.2]
section
variable {P : Program} {w : World} {K : PySem.W.Frag} {mg : Str → Option Value} {base : Heap}
theorem way_right (r : Bool) : decide (V.str (wS r) = .str "right") = r := by cases r <;> decide
def spSpotAhead (K : PySem.W.Frag) : Sp := fun vs H Q _ => ∃ a ln r k, vs = [.ref a, .str (wS r), .int ((k : Nat) : Int)] ∧ LaneAt K H a ln ∧ k < ln.length ∧ ∀ H' p, Same H H' → SpotAt H' p (spotAhead ln r k) → Q (.ref p) H'
theorem ok_spotAhead (T : Txt K mg) : DefOk P w K mg base 1 "spot_ahead" ["lane", "way", "place"] (spSpotAhead K) := by
  refine T.f_spotAhead.ok sc_spotAhead (fun vs H Q E h => by obtain ⟨a, ln, r, k, rfl, _⟩ := h; rfl) (fun f cdv A outer s H vs Q E hr h => ?_)
  obtain ⟨a, ln, r, k, rfl, hL, hk, q⟩ := h
  refine ⟨_, (pss_cons (ps_set (i := 3) sc_spotAhead.nd rfl (.inl rfl) (pe_ifExp (pt_cmpR op_eq (pv 1) pe_str (nomark _)) (pe_op op_add (pv 2) pe_int) (pe_op op_sub (pv 2) pe_int)))
      (pss_one (ps_ret (pe_ifExp (pt_chain op_le op_lt pe_int (pv 3) (pe_callB call_len_seq (by rfl) T.b_len (by decide +kernel) (pa_cons (pv 0) pa_nil))) (pe_tupF (pa_cons pe_str (pa_cons (pv 3) pa_nil))) (pe_tupF (pa_cons pe_str pa_nil)))))), ?_⟩
  refine ⟨.str (wS r), rfl, rfl, _, rfl, ?_⟩
  rw [way_right]
  have lane : ∀ (j : Int) (m : Nat), j = m → m < ln.length → spotAhead ln r k = .lane m → (0 ≤ j ∧ j < ln.length) ∧ ∀ p o, H p = none → o.dict = none → Q (.ref p) (upd H p (.frz o (.tup [.str "lane", .int j]))) := fun j m hj hm e =>
    ⟨⟨by omega, by omega⟩, fun p o hp ho => q _ _ (same_new hp) (by rw [e, hj]; exact TupAt.new ho)⟩
  have out : spotAhead ln r k = .out → ∀ p o, H p = none → o.dict = none → Q (.ref p) (upd H p (.frz o (.tup [.str "out"]))) := fun e p o hp ho =>
    q _ _ (same_new hp) (by rw [e]; exact TupAt.new ho)
  cases r with
  | true =>
    refine iteT ⟨.int k, rfl, (k : Int), 1, rfl, rfl, .int ((k : Int) + 1), rfl, 0, _, rfl, rfl, _, rfl, iteT' (decide_eq_true (by omega)) ⟨.ref a, rfl, a, _, rfl, .inl hL, _, _, rfl, rfl, _, rfl, ?_⟩⟩
    rw [List.length_map]
    refine ite2 (fun h => ?_) (fun h => ?_)
    · have h' := of_decide_eq_true h
      have e : spotAhead ln true k = .lane (k + 1) := by unfold spotAhead; rw [if_pos rfl, if_pos (by omega)]
      exact ⟨.int ((k : Int) + 1), rfl, two_size, (lane _ (k + 1) (by omega) (by omega) e).2⟩
    · have h' : ¬ ((k : Int) + 1 < ln.length) := fun z => h (decide_eq_true z)
      have e : spotAhead ln true k = .out := by unfold spotAhead; rw [if_pos rfl, if_neg (by omega)]
      exact ⟨one_size, out e⟩
  | false =>
    refine iteF ⟨.int k, rfl, (k : Int), 1, rfl, rfl, .int ((k : Int) - 1), rfl, 0, _, rfl, rfl, _, rfl, ?_⟩
    refine ite2 (fun h => ?_) (fun h => ?_)
    · have h' := of_decide_eq_true h
      refine ⟨.ref a, rfl, a, _, rfl, .inl hL, _, _, rfl, rfl, _, rfl, iteT' (decide_eq_true (by rw [List.length_map]; omega)) ?_⟩
      obtain ⟨m, rfl⟩ : ∃ m, k = m + 1 := ⟨k - 1, by omega⟩
      have e : spotAhead ln false (m + 1) = .lane m := by unfold spotAhead; simp only [Bool.false_eq_true, if_false]; rw [if_pos (by omega)]
      exact ⟨.int (((m + 1 : Nat) : Int) - 1), rfl, two_size, (lane _ m (by omega) (by omega) e).2⟩
    · have h' : ¬ (0 ≤ (k : Int) - 1) := fun z => h (decide_eq_true z)
      have hk0 : k = 0 := by omega
      subst hk0
      exact ⟨false, rfl, iteF ⟨one_size, out rfl⟩⟩
def spHasRoom (K : PySem.W.Frag) : Sp := fun vs H Q _ => ∃ a c p ln S sp, vs = [.ref a, .ref c, .ref p] ∧ LaneAt K H a ln ∧ StandAt H c S ∧ SpotAt H p sp ∧ okSpot ln sp ∧ Q (.bl (hasRoom ln S sp)) H
theorem ok_hasRoom (T : Txt K mg) : DefOk P w K mg base 2 "has_room" ["lane", "stand", "spot"] (spHasRoom K) := by
  have D_mostAt : DefOk P w K mg base 1 "most_at" ["lane", "spot"] (spMostAt K) := ok_mostAt T
  refine T.f_hasRoom.ok sc_hasRoom (fun vs H Q E h => by obtain ⟨a, c, p, ln, S, sp, rfl, _⟩ := h; rfl) (fun f cdv A outer s H vs Q E hr h => ?_)
  obtain ⟨a, c, p, ln, S, sp, rfl, hL, ⟨xs, ec, im⟩, hs, ok, q⟩ := h
  refine ⟨_, (pss_one (ps_ret (pe_cmpR op_lt (pe_tm PySem.F.plainAttrs_tuple PySem.F.slot_tuple_count PySem.F.type_tuple_count (r := rCountT K) (mt_countT (hu65 hr)) (pv 1) (pa_cons (pv 2) pa_nil)) (pe_def D_mostAt (hr.mono (by omega)) (pa_cons (pv 0) (pa_cons (pv 2) pa_nil))) (nomark _)))), ?_⟩
  refine ⟨.ref c, rfl, ec.tm, .ref p, rfl, .ref p, dS sp, S.map dS, rfl, (Im.tup ec im).dp, (SpotAt.im hs).dp, shaped_stand S, shaped_spot sp, ?_⟩
  refine ⟨.ref a, rfl, .ref p, rfl, a, ln, p, sp, rfl, hL, hs, ok, _, _, rfl, rfl, ?_⟩
  rw [countP_spot]
  exact q
end
end Slx

set_option Elab.async false
set_option linter.all false
set_option maxRecDepth 100000
set_option maxHeartbeats 4000000
namespace Slx
open PySem PySem.Spec PyProof.Rows L2 Sl
section
variable {P : Program} {w : World} {K : PySem.W.Frag} {mg : Str → Option Value} {base : Heap}
/-- a new choice -/
theorem im_choice {H : Hp} {t1 t2 q : Addr} {o1 o2 : Obj} {wd : Wd} {k : Nat} {s : Spot} (hq : SpotAt H q s) (h1 : H t1 = none) (ho1 : o1.dict = none)
    (h2 : (upd H t1 (.frz o1 (.tup [.str (dW wd), .int k]))) t2 = none) (ho2 : o2.dict = none) :
    Im (upd (upd H t1 (.frz o1 (.tup [.str (dW wd), .int k]))) t2 (.frz o2 (.tup [.ref t1, .ref q]))) (.ref t2) (dCh ((wd, k), s)) := by
  have a1 : TupAt (upd H t1 (.frz o1 (.tup [.str (dW wd), .int k]))) t1 [.str (dW wd), .int k] := TupAt.new ho1
  have s1 := Ti.new (o := .frz o1 (.tup [.str (dW wd), .int k])) h1
  have s2 := Ti.new (o := .frz o2 (.tup [.ref t1, .ref q])) h2
  refine .tup (TupAt.new ho2) (.cons (.tup (s2 _ _ a1) (.cons (.str _) (.cons (.int _) .nil))) (.cons (Im.mono (s1.trans s2) hq.im) .nil))
/-- the moves of one train from a spot, be there room or not -/
def triesOf (ln : List Int) (r : Bool) (sp : Spot) (k : Nat) : List (Mv × Spot) := match sp with
  | .out => []
  | .lane p => [((.go, k), spotAhead ln r p), ((.aside, k), .side p)]
  | .side p => [((.on, k), spotAhead ln r p)]
theorem choices_tries (ln : List Int) (wy : List Bool) (S : Stand) (k : Nat) : choices ln wy S k = (triesOf ln (wy.getD k true) (S.getD k .out) k).filter fun c => hasRoom ln S c.2 := by
  unfold choices triesOf
  generalize wy.getD k true = r
  cases S.getD k .out with
  | out => rfl
  | lane p =>
    simp only
    by_cases h1 : hasRoom ln S (spotAhead ln r p) = true <;> by_cases h2 : hasRoom ln S (.side p) = true <;> simp [h1, h2]
  | side p =>
    simp only
    by_cases h1 : hasRoom ln S (spotAhead ln r p) = true <;> simp [h1]
theorem tries_ok {ln : List Int} {r : Bool} {sp : Spot} {k : Nat} (h : okSpot ln sp) {c : Mv × Spot} (hc : c ∈ triesOf ln r sp k) : okSpot ln c.2 := by
  cases sp with
  | out => cases hc
  | lane p =>
    rcases List.mem_cons.mp hc with e | hc
    · subst e; exact spotAhead_ok _ _
    · rw [List.mem_singleton.mp hc]; exact h
  | side p => rw [List.mem_singleton.mp hc]; exact spotAhead_ok _ _
theorem tries_len (ln : List Int) (r : Bool) (sp : Spot) (k : Nat) : (triesOf ln r sp k).length ≤ 2 := by cases sp <;> simp [triesOf]
def spTries (K : PySem.W.Frag) : Sp := fun vs H Q _ => ∃ a p k ln r sp, vs = [.ref a, .str (wS r), .ref p, .int ((k : Nat) : Int)] ∧ LaneAt K H a ln ∧ SpotAt H p sp ∧ okSpot ln sp ∧
  ∀ H' q xs, Same H H' → H q = none → H' q = some (.lst xs) → ImAll H' xs ((triesOf ln r sp k).map dCh) → Q (.ref q) H'
theorem ok_tries (T : Txt K mg) : DefOk P w K mg base 2 "tries" ["lane", "way", "spot", "train"] (spTries K) := by
  have D_spotAhead : DefOk P w K mg base 1 "spot_ahead" ["lane", "way", "place"] (spSpotAhead K) := ok_spotAhead T
  refine T.f_tries.ok sc_tries (fun vs H Q E h => by obtain ⟨a, p, k, ln, r, sp, rfl, _⟩ := h; rfl) (fun f cdv A outer s H vs Q E hr h => ?_)
  obtain ⟨a, p, k, ln, r, sp, rfl, hL, hp, ok, q⟩ := h
  refine ⟨_, (pss_cons (ps_if (pt_cmpR op_eq (pe_ix (r := rIxT K) ix_tup (pv 2) pe_int (fun _ _ => rfl)) pe_str (nomark _)) (pss_one (ps_ret (pe_lst pa_nil))) pss_nil)
      (pss_cons (ps_asg (pv 2) (pg_tup rfl (pgs_cons (pg_name (i := 4) sc_tries.nd rfl (.inl rfl)) (pgs_cons (pg_name (i := 5) sc_tries.nd rfl (.inl rfl)) pgs_nil))))
      (pss_cons (ps_set (i := 6) sc_tries.nd rfl (.inl rfl) (pe_def D_spotAhead (hr.mono (by omega)) (pa_cons (pv 0) (pa_cons (pv 1) (pa_cons (pv 5) pa_nil)))))
      (pss_cons (ps_if (pt_cmpR op_eq (pv 4) pe_str (nomark _)) (pss_one (ps_ret (pe_lst (pa_cons (pe_tupF (pa_cons (pe_tupF (pa_cons pe_str (pa_cons (pv 3) pa_nil))) (pa_cons (pv 6) pa_nil))) pa_nil)))) pss_nil)
      (pss_one (ps_ret (pe_lst (pa_cons (pe_tupF (pa_cons (pe_tupF (pa_cons pe_str (pa_cons (pv 3) pa_nil))) (pa_cons (pv 6) pa_nil))) (pa_cons (pe_tupF (pa_cons (pe_tupF (pa_cons pe_str (pa_cons (pv 3) pa_nil))) (pa_cons (pe_tupF (pa_cons pe_str (pa_cons (pv 5) pa_nil))) pa_nil))) pa_nil))))))))), ?_⟩
  cases sp with
  | out =>
    exact ⟨.ref p, rfl, p, _, 0, _, rfl, rfl, hp.sq, at0, rfl, _, rfl, iteT' (decide_eq_true rfl) ⟨Nat.zero_le _, fun D hD => q _ _ _ (same_new hD) hD upd_same .nil⟩⟩
  | side m =>
    refine ⟨.ref p, rfl, p, _, 0, _, rfl, rfl, hp.sq, at0, rfl, _, rfl, iteF' (decide_eq_false (by decide)) ?_⟩
    refine ⟨.ref p, rfl, p, _, rfl, hp.sq, rfl, _, _, rfl, _, _, rfl, rfl, ?_⟩
    refine ⟨.ref a, rfl, .str (wS r), rfl, .int m, rfl, a, ln, r, m, rfl, hL, ok, fun H2 q1 s2 hq1 => ?_⟩
    refine ⟨.str "side", rfl, rfl, _, rfl, iteT' (decide_eq_true rfl) ?_⟩
    refine ⟨.int k, rfl, two_size, fun t1 o1 h1 ho1 => ⟨.ref q1, rfl, two_size, fun t2 o2 h2 ho2 => ⟨one_size, fun D hD => ?_⟩⟩⟩
    have hc := im_choice (wd := .on) (k := k) hq1 h1 ho1 h2 ho2
    have s4 := (s2.trans (same_new (o := .frz o1 (.tup [.str (dW .on), .int k])) h1)).trans (same_new (o := .frz o2 (.tup [.ref t1, .ref q1])) h2)
    exact q _ _ _ (s4.trans (same_new hD)) (s4.free hD) upd_same (.cons (Im.mono (Ti.new hD) hc) .nil)
  | lane m =>
    refine ⟨.ref p, rfl, p, _, 0, _, rfl, rfl, hp.sq, at0, rfl, _, rfl, iteF' (decide_eq_false (by decide)) ?_⟩
    refine ⟨.ref p, rfl, p, _, rfl, hp.sq, rfl, _, _, rfl, _, _, rfl, rfl, ?_⟩
    refine ⟨.ref a, rfl, .str (wS r), rfl, .int m, rfl, a, ln, r, m, rfl, hL, ok, fun H2 q1 s2 hq1 => ?_⟩
    refine ⟨.str "lane", rfl, rfl, _, rfl, iteF' (decide_eq_false (by decide)) ?_⟩
    refine ⟨.int k, rfl, two_size, fun t1 o1 h1 ho1 => ⟨.ref q1, rfl, two_size, fun t2 o2 h2 ho2 => ?_⟩⟩
    have hc := im_choice (wd := .go) (k := k) hq1 h1 ho1 h2 ho2
    have s4 := (s2.trans (same_new (o := .frz o1 (.tup [.str (dW .go), .int k])) h1)).trans (same_new (o := .frz o2 (.tup [.ref t1, .ref q1])) h2)
    refine ⟨.int k, rfl, two_size, fun t3 o3 h3 ho3 => ⟨.int m, rfl, two_size, fun t4 o4 h4 ho4 => ⟨two_size, fun t5 o5 h5 ho5 => ⟨two_size, fun D hD => ?_⟩⟩⟩⟩
    -- the aside, its word's tuple made ahead of its spot's
    have u3 := same_new (o := .frz o3 (.tup [.str "aside", .int k])) h3
    have u4 := same_new (o := .frz o4 (.tup [.str "side", .int m])) h4
    have u5 := same_new (o := .frz o5 (.tup [.ref t3, .ref t4])) h5
    have u6 := same_new (o := .lst [.ref t2, .ref t5]) hD
    have i3 : TupAt (upd (upd (upd H2 t1 (.frz o1 (.tup [.str (dW .go), .int k]))) t2 (.frz o2 (.tup [.ref t1, .ref q1]))) t3 (.frz o3 (.tup [.str "aside", .int k]))) t3 [.str (dW .aside), .int k] := TupAt.new ho3
    have tot := ((s4.trans u3).trans u4).trans u5
    refine q _ _ _ (tot.trans u6) (tot.free hD) upd_same (.cons (Im.mono (Ti.of (((u3.trans u4).trans u5).trans u6)) hc) (.cons ?_ .nil))
    exact .tup (Ti.of u6 _ _ (TupAt.new ho5)) (.cons (.tup (Ti.of ((u4.trans u5).trans u6) _ _ i3) (.cons (.str _) (.cons (.int _) .nil))) (.cons (SpotAt.im (s := .side m) (Ti.of (u5.trans u6) _ _ (TupAt.new ho4))) .nil))
/-- pairs of a list picked by a comprehension: what is kept so far -/
theorem filter_take {α : Type} {l : List α} {i : Nat} {x : α} {f : α → Bool} (h : l[i]? = some x) : (l.take (i + 1)).filter f = (l.take i).filter f ++ (if f x then [x] else []) := by
  rw [List.take_add_one, h, List.filter_append]
  cases e : f x <;> simp [e]
theorem im_two {H : Hp} {v : V} {d e : PyData} (h : Im H v (.tuple [d, e])) : ∃ a u1 u2, v = .ref a ∧ TupAt H a [u1, u2] ∧ Im H u1 d ∧ Im H u2 e := by
  cases h with
  | tup t i => cases i with
    | cons h1 i => cases i with
      | cons h2 i => cases i; exact ⟨_, _, _, rfl, t, h1, h2⟩
def spChoices (K : PySem.W.Frag) : Sp := fun vs H Q _ => ∃ a b c k ln wy S, vs = [.ref a, .ref b, .ref c, .int ((k : Nat) : Int)] ∧ LaneAt K H a ln ∧ WaysAt K H b wy ∧ StandAt H c S ∧ OkStand ln wy S ∧ k < S.length ∧
  ∀ H' p xs, Same H H' → H p = none → H' p = some (.lst xs) → ImAll H' xs ((choices ln wy S k).map dCh) → Q (.ref p) H'
theorem ok_choices (T : Txt K mg) : DefOk P w K mg base 3 "choices" ["lane", "ways", "stand", "train"] (spChoices K) := by
  have D_tries : DefOk P w K mg base 2 "tries" ["lane", "way", "spot", "train"] (spTries K) := ok_tries T
  have D_hasRoom : DefOk P w K mg base 2 "has_room" ["lane", "stand", "spot"] (spHasRoom K) := ok_hasRoom T
  refine T.f_choices.ok sc_choices (fun vs H Q E h => by obtain ⟨a, b, c, k, ln, wy, S, rfl, _⟩ := h; rfl) (fun f cdv A outer s H vs Q E hr h => ?_)
  obtain ⟨a, b, c, k, ln, wy, S, rfl, hL, hW, hS, ok, hk, q⟩ := h
  refine ⟨_, (pss_cons (ps_set (i := 4) sc_choices.nd rfl (.inl rfl) (pe_def D_tries (hr.mono (by omega)) (pa_cons (pv 0) (pa_cons (pe_ix (r := rIxL K) ix_list (pv 1) (pv 3) (fun _ _ => rfl)) (pa_cons (pe_ix (r := rIxT K) ix_tup (pv 2) (pv 3) (fun _ _ => rfl)) (pa_cons (pv 3) pa_nil))))))
      (pss_one (ps_ret (pe_lc (g := gTup K 2 (gCons (gName 5) (gCons (gName 6) gNil))) (own := [("move", 5), ("spot", 6)]) rfl sc_choices.nd (pi_listK (K := K) (pv 4)) (blkOk_by (own := [("move", 5), ("spot", 6)]) (N := ["lane", "ways", "stand", "train", "found", "move", "spot"]) (sc := defScope s_choices) (by decide +kernel)) (fun _ _ _ _ _ => (pg_tup rfl (pgs_cons (pg_name (i := 5) sc_choices.nd rfl (.inl rfl)) (pgs_cons (pg_name (i := 6) sc_choices.nd rfl (.inl rfl)) pgs_nil)))) (fun _ _ _ _ _ => (pts_one (pt_val (pe_def D_hasRoom (hr.mono (by omega)) (pa_cons (pv 0) (pa_cons (pv 2) (pa_cons (pv 6) pa_nil))))))) (fun _ _ _ _ _ => (pe_tupF (pa_cons (pv 5) (pa_cons (pv 6) pa_nil)))))))), ?_⟩
  have es : S[k]? = some (S.getD k .out) := getD_lt hk
  have ew : wy[k]? = some (wy.getD k true) := getD_lt (by rw [← ok.len]; exact hk)
  have ewV : (wy.map fun b => V.str (wS b))[k]? = some (.str (wS (wy.getD k true))) := by rw [List.getElem?_map, ew]; rfl
  rw [choices_tries] at q
  generalize S.getD k .out = sp at es q
  generalize wy.getD k true = r at ew ewV q
  obtain ⟨xs, ec, im⟩ := id hS
  obtain ⟨p, ep, hp⟩ := stand_get im es
  have okp := ok.spot sp (mem_of_some es)
  refine ⟨.ref a, rfl, .ref b, rfl, .int k, rfl, b, _, (k : Int), _, rfl, rfl, hW, atI_nat ewV, .ref c, rfl, .int k, rfl, c, xs, (k : Int), _, rfl, rfl, ec.sq, atI_nat ep, .int k, rfl, ?_⟩
  refine ⟨a, p, k, ln, r, sp, rfl, hL, hp, okp, fun H1 l1 ys s1 hl1 el1 il1 => ⟨.ref l1, rfl, l1, rfl, ⟨_, .inl (.inl el1)⟩, fun D hD => ?_⟩⟩
  have hD0 : H D = none := s1.free hD
  have ly : ys.length = (triesOf ln r sp k).length := by rw [il1.length, List.length_map]
  have l2 := tries_len ln r sp k
  refine lc_it (walk_list (K := K) (a := l1) (xs := ys)) (fun i G => Same H1 G ∧ ∃ acc, G D = some (.lst acc) ∧ ImAll G acc ((((triesOf ln r sp k).take i).filter fun c => hasRoom ln S c.2).map dCh)) ⟨same_new hD, [], upd_same, .nil⟩ (fun i G _ pv => .inl (.inl (pv.1 _ _ el1))) (fun i x G G' hi pv y => ?_) (fun G pv => ?_)
  · obtain ⟨sm, acc, ea, ia⟩ := pv
    obtain ⟨rfl, ex⟩ := y
    obtain ⟨d, ed, imd⟩ := il1.getV ex
    rw [List.getElem?_map] at ed
    cases ech : (triesOf ln r sp k)[i]? with
    | none => rw [ech] at ed; cases ed
    | some ch =>
      rw [ech] at ed
      cases ed
      have s2 := s1.trans sm
      obtain ⟨t, u1, u2, rfl, tt, i1, i2⟩ := im_two (Im.mono (Ti.of sm) imd)
      obtain ⟨ts, rfl, hsp⟩ := im_spot i2
      refine ⟨t, _, rfl, tt.sq, rfl, _, _, rfl, _, _, rfl, rfl, rfl, ?_⟩
      refine ⟨.ref a, rfl, .ref c, rfl, .ref ts, rfl, a, c, ts, ln, S, ch.2, rfl, s2.seq hL, hS.mono (Ti.of s2), hsp, tries_ok okp (mem_of_some ech), _, rfl, ?_⟩
      rw [filter_take ech]
      cases e : hasRoom ln S ch.2 with
      | false =>
        simp only [Bool.false_eq_true, if_false, List.append_nil]
        exact ⟨sm, acc, ea, ia⟩
      | true =>
        simp only [if_true]
        refine ⟨u1, rfl, .ref ts, rfl, two_size, nT_q fun G4 t4 s4 h4 => ⟨acc, s4 _ _ ea, ?_, ?_⟩⟩
        · have la := ia.length
          have lf := List.length_filter_le (fun c : Mv × Spot => hasRoom ln S c.2) ((triesOf ln r sp k).take i)
          rw [List.length_map] at la
          rw [List.length_take] at lf
          exact Nat.lt_of_le_of_lt (by omega : _ ≤ 2) (by decide)
        · have tl := Ti.lst (o := .lst (acc ++ [.ref t4])) (s4 _ _ ea)
          refine ⟨same_mut (sm.trans s4) hD, _, upd_same, ?_⟩
          rw [List.map_append]
          exact (ia.mono ((Ti.of s4).trans tl)).append (.cons (.tup (tl _ _ h4) (.cons (i1.mono ((Ti.of s4).trans tl)) (.cons ((SpotAt.im (Ti.of s4 _ _ hsp)).mono tl) .nil))) .nil)
  · obtain ⟨sm, acc, ea, ia⟩ := pv
    rw [ly, List.take_length] at ia
    exact q _ _ _ (s1.trans sm) hD0 ea ia
end
end Slx

set_option Elab.async false
set_option linter.all false
set_option maxRecDepth 100000
set_option maxHeartbeats 4000000
namespace Slx
open PySem PySem.Spec PyProof.Rows L2 Sl
theorem im_pair {H : Hp} {v : V} {d e : PyData} (h : Im H v (.tuple [d, e])) : ∃ a u1 u2, v = .ref a ∧ TupAt H a [u1, u2] ∧ Im H u1 d ∧ Im H u2 e := by
  cases h with
  | tup t i => cases i with
    | cons h1 i => cases i with
      | cons h2 i => cases i; exact ⟨_, _, _, rfl, t, h1, h2⟩
theorem im_str {H : Hp} {v : V} {x : Str} (h : Im H v (.str x)) : v = .str x := by cases h; rfl
theorem im_int {H : Hp} {v : V} {i : Int} (h : Im H v (.int i)) : v = .int i := by cases h; rfl
/-- a move at a -/
abbrev MoveAt (H : Hp) (a : Addr) (m : Mv) : Prop := TupAt H a [.str (dW m.1), .int m.2]
theorem im_move {H : Hp} {v : V} {m : Mv} (h : Im H v (dM m)) : ∃ a, v = .ref a ∧ MoveAt H a m := by
  obtain ⟨a, u1, u2, rfl, t, h1, h2⟩ := im_pair h
  rw [im_str h1, im_int h2] at t
  exact ⟨a, rfl, t⟩
theorem MoveAt.im {H : Hp} {a : Addr} {m : Mv} (h : MoveAt H a m) : Im H (.ref a) (dM m) := .tup h (.cons (.str _) (.cons (.int _) .nil))
theorem choices_len (ln : List Int) (wy : List Bool) (S : Stand) (k : Nat) : (choices ln wy S k).length ≤ 2 := by
  unfold choices
  split
  · simp
  · rw [List.length_append]
    split <;> split <;> simp
  · split <;> simp
theorem flat_len (ln : List Int) (wy : List Bool) (S : Stand) : ∀ n, ((List.range n).flatMap fun k => choices ln wy S k).length ≤ 2 * n
  | 0 => by simp
  | n + 1 => by
    rw [List.range_succ, List.flatMap_append, List.length_append]
    have h1 := flat_len ln wy S n
    have h2 := choices_len ln wy S n
    simp only [List.flatMap_cons, List.flatMap_nil, List.append_nil]
    omega
theorem dW_inj {a b : Wd} (h : dW a = dW b) : a = b := by cases a <;> cases b <;> first | rfl | (exact absurd h (by decide))
theorem eqv_move (a b : Mv) : PyData.eqv (dM a) (dM b) = decide (a = b) := by
  obtain ⟨w1, k1⟩ := a
  obtain ⟨w2, k2⟩ := b
  simp only [dM, PyData.eqv, PyData.eqvAll, natInt_eq, Bool.and_true]
  rw [str_beq]
  by_cases h : w1 = w2
  · subst h; simp
  · have h2 : ¬ dW w1 = dW w2 := fun e => h (dW_inj e)
    simp [h, h2]
theorem shaped_move (a : Mv) : SeqAt.shaped (dM a) = true := by
  obtain ⟨w, k⟩ := a
  cases w <;> (simp [dM, dW, SeqAt.shaped, PyData.canLay0, PyData.canLayAll0, PyData.depth, PyData.depthAll]; try decide +kernel)
section
variable {P : Program} {w : World} {K : PySem.W.Frag} {mg : Str → Option Value} {base : Heap}
def spAllowed (K : PySem.W.Frag) : Sp := fun vs H Q _ => ∃ a b c ln wy S, vs = [.ref a, .ref b, .ref c] ∧ LaneAt K H a ln ∧ WaysAt K H b wy ∧ StandAt H c S ∧ OkStand ln wy S ∧
  ∀ H' p xs, Same H H' → H p = none → H' p = some (.lst xs) → ImAll H' xs ((allowed ln wy S).map dM) → Q (.ref p) H'
def spIsMove (K : PySem.W.Frag) : Sp := fun vs H Q _ => ∃ p m n, vs = [.ref p, .int ((n : Nat) : Int)] ∧ MoveAt H p m ∧ m.2 < n ∧ Q (.bl true) H
theorem ok_isMove (T : Txt K mg) : DefOk P w K mg base 2 "is_move" ["thing", "trains"] (spIsMove K) := by
  have D_isNumber : DefOk P w K mg base 1 "is_number" ["thing", "least", "most"] (spIsNumber K) := ok_isNumber T
  refine T.f_isMove.ok sc_isMove (fun vs H Q E h => by obtain ⟨p, m, n, rfl, _⟩ := h; rfl) (fun f cdv A outer s H vs Q E hr h => ?_)
  obtain ⟨p, ⟨wd, k⟩, n, rfl, hm, hk, q⟩ := h
  refine ⟨_, (pss_cons (ps_if (PW.pt (pw_or (pt_cmpR op_notTyB (pe_callTy call_type1 (by rfl) T.b_type (by decide +kernel) (pa_cons (pv 0) pa_nil)) (pe_ty (T := "tuple") T.b_tuple (by decide +kernel)) (nomark _)) (pw_or1 (pt_cmpR op_ne (pe_callB call_len_seq (by rfl) T.b_len (by decide +kernel) (pa_cons (pv 0) pa_nil)) pe_int (nomark _))))) (pss_one (ps_ret pe_bl)) pss_nil)
      (pss_cons (ps_asg (pv 0) (pg_tup rfl (pgs_cons (pg_name (i := 2) sc_isMove.nd rfl (.inl rfl)) (pgs_cons (pg_name (i := 3) sc_isMove.nd rfl (.inl rfl)) pgs_nil))))
      (pss_one (ps_ret (pe_and (pe_cmpR op_isTyB (pe_callTy call_type1 (by rfl) T.b_type (by decide +kernel) (pa_cons (pv 2) pa_nil)) (pe_ty (T := "str") T.b_str (by decide +kernel)) (nomark _)) (pe_one (pe_def D_isNumber (hr.mono (by omega)) (pa_cons (pv 3) (pa_cons pe_int (pa_cons (pe_op op_sub (pv 1) pe_int) pa_nil)))))))))), ?_⟩
  have hT := hm.sq (K := K)
  refine ⟨.ref p, rfl, .ref p, "tuple", rfl, .tup hT, "tuple", "tuple", rfl, rfl, _, rfl, iteNS rfl ?_⟩
  refine ⟨.ref p, rfl, p, _, rfl, .inr hT, rfl, _, rfl, iteF' rfl ?_⟩
  refine ⟨.ref p, rfl, p, _, rfl, hT, rfl, _, _, rfl, _, _, rfl, rfl, ?_⟩
  refine ⟨.str (dW wd), rfl, .str (dW wd), "str", rfl, .str _, "str", "str", rfl, rfl, _, rfl, iteT' (decide_eq_true rfl) ?_⟩
  refine ⟨.int k, rfl, .int n, rfl, (n : Int), 1, rfl, rfl, .int k, "int", 0, (n : Int) - 1, rfl, .int _, ?_⟩
  have e : isNum (.int (k : Int)) 0 ((n : Int) - 1) = true := by
    have hk' : k < n := hk
    show (decide ((0 : Int) ≤ k) && decide ((k : Int) ≤ n - 1)) = true
    rw [decide_eq_true (by omega), decide_eq_true (by omega)]
    rfl
  rw [e]
  exact q
def spBehind (K : PySem.W.Frag) : Sp := fun vs H Q _ => ∃ a b c p ln wy S m sp, vs = [.ref a, .ref b, .ref c, .ref p] ∧ LaneAt K H a ln ∧ WaysAt K H b wy ∧ StandAt H c S ∧ OkStand ln wy S ∧ MoveAt H p m ∧ m.2 < S.length ∧ (m, sp) ∈ choices ln wy S m.2 ∧
  ∀ H' p', Same H H' → StandAt H' p' (S.set m.2 sp) → Q (.ref p') H'
theorem choice_one {ln : List Int} {wy : List Bool} {S : Stand} {k : Nat} {m : Mv} {s t : Spot} (h1 : (m, s) ∈ choices ln wy S k) (h2 : (m, t) ∈ choices ln wy S k) : s = t := by
  obtain ⟨_, _, a1⟩ := mem_choices h1
  obtain ⟨_, _, a2⟩ := mem_choices h2
  rcases a1 with ⟨p, hp, ⟨e1, e2⟩ | ⟨e1, e2⟩⟩ | ⟨p, hp, e1, e2⟩ <;> rcases a2 with ⟨p', hp', ⟨f1, f2⟩ | ⟨f1, f2⟩⟩ | ⟨p', hp', f1, f2⟩
  all_goals first
    | (rw [e1] at f1; cases f1; done)
    | (rw [hp] at hp'; cases hp'; rw [e2, f2])
theorem ok_behind (T : Txt K mg) : DefOk P w K mg base 5 "behind" ["lane", "ways", "stand", "move"] (spBehind K) := by
  have D_needStand : DefOk P w K mg base 4 "need_stand" ["lane", "ways", "stand"] (spNeedStand K) := ok_needStand T
  have D_isMove : DefOk P w K mg base 2 "is_move" ["thing", "trains"] (spIsMove K) := ok_isMove T
  have D_choices : DefOk P w K mg base 3 "choices" ["lane", "ways", "stand", "train"] (spChoices K) := ok_choices T
  refine T.f_behind.ok sc_behind (fun vs H Q E h => by obtain ⟨a, b, c, p, ln, wy, S, m, sp, rfl, _⟩ := h; rfl) (fun f cdv A outer s H vs Q E hr h => ?_)
  obtain ⟨a, b, c, p, ln, wy, S, m, sp, rfl, hL, hW, hS, ok, hm, hk, hch, q⟩ := h
  refine ⟨_, (pss_cons (ps_expr (pe_def D_needStand (hr.mono (by omega)) (pa_cons (pv 0) (pa_cons (pv 1) (pa_cons (pv 2) pa_nil)))))
      (pss_cons (ps_if (pt_not (pt_val (pe_def D_isMove (hr.mono (by omega)) (pa_cons (pv 3) (pa_cons (pe_callB call_len_seq (by rfl) T.b_len (by decide +kernel) (pa_cons (pv 2) pa_nil)) pa_nil))))) (pss_one ps_never) pss_nil)
      (pss_cons (ps_set (i := 4) sc_behind.nd rfl (.inl rfl) (pe_ix (r := rIxT K) ix_tup (pv 3) pe_int (fun _ _ => rfl)))
      (pss_cons (ps_for PassesOwn.never rfl (pi_listK (K := K) (pe_def D_choices (hr.mono (by omega)) (pa_cons (pv 0) (pa_cons (pv 1) (pa_cons (pv 2) (pa_cons (pv 4) pa_nil)))))) (pg_tup rfl (pgs_cons (pg_name (i := 5) sc_behind.nd rfl (.inl rfl)) (pgs_cons (pg_name (i := 6) sc_behind.nd rfl (.inl rfl)) pgs_nil))) (pss_one (ps_if (pt_cmpR (r := rEqD K) (op_eqD (hu64 hr)) (pv 5) (pv 3) (nomark _)) (pss_one (ps_ret (pe_op (r := rCatF K) op_catF (pe_op (r := rCatF K) op_catF (pe_slice (r := rSlF K) sl_tupF (pv 2) po_none (po_some (pv 4))) (pe_tupF (pa_cons (pv 6) pa_nil))) (pe_slice (r := rSlF K) sl_tupF (pv 2) (po_some (pe_op op_add (pv 4) pe_int)) po_none)))) pss_nil)))
      (pss_one ps_never))))), ?_⟩
  refine ⟨.ref a, rfl, .ref b, rfl, .ref c, rfl, a, b, c, ln, wy, S, rfl, hL, hW, hS, ok, fun H1 s1 => ?_⟩
  obtain ⟨xs, ec, im⟩ := id hS
  have zl := StandAt.len im
  have z6 := stand_size ok im
  have hm1 : MoveAt H1 p m := Ti.of s1 _ _ hm
  refine ⟨.ref p, rfl, .ref c, rfl, c, xs, rfl, .inr (Ti.of s1 _ _ ec).sq, p, m, xs.length, rfl, hm1, by omega, _, rfl, iteF' rfl ?_⟩
  refine ⟨.ref p, rfl, p, _, 1, _, rfl, rfl, hm1.sq, at1, ?_⟩
  refine ⟨.ref a, rfl, .ref b, rfl, .ref c, rfl, .int m.2, rfl, a, b, c, m.2, ln, wy, S, rfl, s1.seq hL, s1.seq hW, hS.mono (Ti.of s1), ok, hk, fun H2 d xs1 s2 hd ed id1 => ⟨d, rfl, ⟨_, .inl (.inl ed)⟩, ?_⟩⟩
  have s12 := s1.trans s2
  have lx : xs1.length = (choices ln wy S m.2).length := by rw [id1.length, List.length_map]
  refine for_it (walk_list (K := K) (a := d) (xs := xs1)) (fun i σ H3 => H3 = H2 ∧ (∃ y5 y6, σ = [some (.ref a), some (.ref b), some (.ref c), some (.ref p), some (.int m.2), y5, y6]) ∧ ∀ j ch, j < i → (choices ln wy S m.2)[j]? = some ch → ch.1 ≠ m)
    ⟨rfl, ⟨none, none, rfl⟩, fun j ch hj _ => absurd hj (Nat.not_lt_zero j)⟩ (fun i σ H3 _ p3 => by rw [p3.1]; exact .inl (.inl ed)) (fun i x σ H3 H4 hi p3 y => ?_) (fun σ H3 p3 => ?_)
  · obtain ⟨rfl, ⟨y5, y6, rfl⟩, hno⟩ := p3
    obtain ⟨rfl, ex⟩ := y
    obtain ⟨dd, edd, imd⟩ := id1.getV ex
    rw [List.getElem?_map] at edd
    cases ech : (choices ln wy S m.2)[i]? with
    | none => rw [ech] at edd; cases edd
    | some ch =>
      rw [ech] at edd
      cases edd
      obtain ⟨t, u1, u2, rfl, tt, i1, i2⟩ := im_pair imd
      obtain ⟨tm, rfl, hmv⟩ := im_move i1
      obtain ⟨ts, rfl, hsp⟩ := im_spot i2
      refine ⟨t, _, rfl, tt.sq, rfl, _, _, rfl, _, _, rfl, rfl, ?_⟩
      refine ⟨.ref tm, rfl, .ref p, rfl, dM ch.1, dM m, hmv.im.dp, (MoveAt.im (Ti.of s2 _ _ hm1)).dp, shaped_move _, shaped_move _, _, rfl, ?_⟩
      rw [eqv_move]
      refine ite2 (fun e => ?_) (fun e => ?_)
      · have e' : ch.1 = m := of_decide_eq_true e
        have esp : ch.2 = sp := choice_one (ln := ln) (wy := wy) (S := S) (k := m.2) (m := m) (by rw [← e']; rw [e']; have := mem_of_some ech; rw [← e']; rw [← e'] at this; exact this) hch
        refine ⟨.ref c, rfl, .int m.2, rfl, m.2, rfl, slF (Ti.of s12 _ _ ec) fun H5 p5 s5 t5 => ?_⟩
        rw [cut_to (by omega)] at t5
        refine ⟨.ref ts, rfl, one_size, nT_q fun H6 p6 s6 t6 => catF (Ti.of s6 _ _ t5) t6 (by simp [sizeLine_eq]; omega) fun H7 p7 s7 t7 => ?_⟩
        have s57 := (s5.trans s6).trans s7
        refine ⟨.ref c, rfl, .int m.2, rfl, (m.2 : Int), 1, rfl, rfl, (m.2 : Int) + 1, rfl, ?_⟩
        show rSlF K (.ref c) (some ((m.2 : Int) + 1)) none H7 fun y H2 => rCatF K (.ref p7) y H2 Q
        refine slF (Ti.of (s12.trans s57) _ _ ec) fun H8 p8 s8 t8 => ?_
        have t8' : TupAt H8 p8 (xs.drop (m.2 + 1)) := by
          have e2 : cutV xs (some ((m.2 : Int) + 1)) none = xs.drop (m.2 + 1) := by
            have := cut_from (xs := xs) (k := m.2 + 1) (by omega)
            rw [← this]
            congr 2
          rw [← e2]
          exact t8
        refine catF (Ti.of s8 _ _ t7) t8' (by simp [sizeLine_eq]; omega) fun H9 p9 s9 t9 => ?_
        rw [set_parts (by omega)] at t9
        have s29 := (s57.trans s8).trans s9
        refine q H9 p9 (s12.trans s29) ⟨_, t9, ?_⟩
        rw [List.map_set]
        have hs9 : SpotAt H9 ts sp := by rw [← esp]; exact Ti.of s29 _ _ hsp
        exact ImAll.set hs9.im m.2 (im.mono (Ti.of (s12.trans s29)))
      · refine ⟨rfl, ⟨_, _, rfl⟩, fun j c2 hj ej => ?_⟩
        by_cases hji : j = i
        · subst hji
          rw [ech] at ej
          cases ej
          exact fun z => e (decide_eq_true z)
        · exact hno j c2 (by omega) ej
  · obtain ⟨_, _, hno⟩ := p3
    obtain ⟨j, hj, ej⟩ := List.getElem_of_mem hch
    exact hno j (m, sp) (by omega) (by rw [List.getElem?_eq_getElem hj, ej]) rfl
end
end Slx

set_option Elab.async false
set_option linter.all false
set_option maxRecDepth 100000
set_option maxHeartbeats 4000000
namespace Slx
open PySem PySem.Spec PyProof.Rows L2 Sl
/-- a thing that is no move that is allowed -/
inductive NoMv (K : PySem.W.Frag) (H : Hp) (ln : List Int) (wy : List Bool) (S : Stand) : V → Prop
  | other {x : V} {Tn : String} : TyB K H x Tn → Tn ≠ "tuple" → NoMv K H ln wy S x
  | long {p : Addr} {xs : List V} : TupAt H p xs → xs.length ≠ 2 → NoMv K H ln wy S (.ref p)
  | word {p : Addr} {u v : V} {Tu : String} : TupAt H p [u, v] → TyB K H u Tu → Tu ≠ "str" → NoMv K H ln wy S (.ref p)
  | train {p : Addr} {wd : Str} {v : V} {Tv : String} : TupAt H p [.str wd, v] → TyB K H v Tv → isNum v 0 ((S.length : Int) - 1) = false → NoMv K H ln wy S (.ref p)
  | none {p : Addr} {wd : Str} {k : Nat} : TupAt H p [.str wd, .int k] → k < S.length → SeqAt.shaped (.tuple [.str wd, .int k]) = true → (∀ w, (w, k) ∈ allowed ln wy S → dW w ≠ wd) → NoMv K H ln wy S (.ref p)
section
variable {P : Program} {w : World} {K : PySem.W.Frag} {mg : Str → Option Value} {base : Heap}
/-- behind: the stand, or NoMove -/
def spBehindR (K : PySem.W.Frag) (C : Er → Addr) : Sp := fun vs H Q E => ∃ (a b c : Addr) (mv : V) (ln : List Int) (wy : List Bool) (S : Stand), vs = [.ref a, .ref b, .ref c, mv] ∧ LaneAt K H a ln ∧ WaysAt K H b wy ∧ StandAt H c S ∧ OkStand ln wy S ∧
  ((∃ p m sp, mv = .ref p ∧ MoveAt H p m ∧ m.2 < S.length ∧ (m, sp) ∈ choices ln wy S m.2 ∧ ∀ H' q, Same H H' → StandAt H' q (S.set m.2 sp) → Q (.ref q) H') ∨
   (NoMv K H ln wy S mv ∧ ∀ H', Same H H' → E (.ref (C .move)) none H'))
def spRefused (K : PySem.W.Frag) : Sp := fun vs H Q _ => ∃ (a b c : Addr) (mv : V) (ln : List Int) (wy : List Bool) (S : Stand), vs = [.ref a, .ref b, .ref c, mv] ∧ LaneAt K H a ln ∧ WaysAt K H b wy ∧ StandAt H c S ∧ OkStand ln wy S ∧ NoMv K H ln wy S mv ∧ ∀ H', Same H H' → Q (.bl true) H'
/-- what _law_kind is asked in a suite -/
def spKindS (C : Er → Addr) (a : Addr) (cls : Value) (d : Option Addr) : List V → Hp → VK → Prop := fun vs H Q => ∃ x : Er, cls = .ref (C x) ∧ d = none ∧ vs = [.ref a] ∧ ∀ H' r, Same H H' → H r = none → H' r = some (.lst [.str x.word, .str "value"]) → Q (.ref r) H'
end
end Slx

set_option Elab.async false
set_option linter.all false
set_option maxRecDepth 100000
set_option maxHeartbeats 4000000
namespace Slx
open PySem PySem.Spec PyProof.Rows L2 Sl
section
variable {P : Program} {w : World} {K : PySem.W.Frag} {mg : Str → Option Value} {base : Heap}
/-- is_move of any thing -/
def spIsMoveG (K : PySem.W.Frag) : Sp := fun vs H Q _ => ∃ (x : V) (n : Nat), vs = [x, .int (n : Nat)] ∧
  ((∃ Tn, TyB K H x Tn ∧ Tn ≠ "tuple" ∧ Q (.bl false) H) ∨ (∃ p xs, x = .ref p ∧ TupAt H p xs ∧ xs.length ≠ 2 ∧ Q (.bl false) H) ∨ (∃ p u v Tu, x = .ref p ∧ TupAt H p [u, v] ∧ TyB K H u Tu ∧ Tu ≠ "str" ∧ Q (.bl false) H) ∨
   (∃ p wd v Tv, x = .ref p ∧ TupAt H p [.str wd, v] ∧ TyB K H v Tv ∧ Q (.bl (isNum v 0 ((n : Int) - 1))) H))
theorem ok_isMoveG (T : Txt K mg) : DefOk P w K mg base 2 "is_move" ["thing", "trains"] (spIsMoveG K) := by
  have D_isNumber : DefOk P w K mg base 1 "is_number" ["thing", "least", "most"] (spIsNumber K) := ok_isNumber T
  refine T.f_isMove.ok sc_isMove (fun vs H Q E h => by obtain ⟨x, n, rfl, _⟩ := h; rfl) (fun f cdv A outer s H vs Q E hr h => ?_)
  obtain ⟨x, n, rfl, h⟩ := h
  refine ⟨_, (pss_cons (ps_if (PW.pt (pw_or (pt_cmpR op_notTyB (pe_callTy call_type1 (by rfl) T.b_type (by decide +kernel) (pa_cons (pv 0) pa_nil)) (pe_ty (T := "tuple") T.b_tuple (by decide +kernel)) (nomark _)) (pw_or1 (pt_cmpR op_ne (pe_callB call_len_seq (by rfl) T.b_len (by decide +kernel) (pa_cons (pv 0) pa_nil)) pe_int (nomark _))))) (pss_one (ps_ret pe_bl)) pss_nil)
      (pss_cons (ps_asg (pv 0) (pg_tup rfl (pgs_cons (pg_name (i := 2) sc_isMove.nd rfl (.inl rfl)) (pgs_cons (pg_name (i := 3) sc_isMove.nd rfl (.inl rfl)) pgs_nil))))
      (pss_one (ps_ret (pe_and (pe_cmpR op_isTyB (pe_callTy call_type1 (by rfl) T.b_type (by decide +kernel) (pa_cons (pv 2) pa_nil)) (pe_ty (T := "str") T.b_str (by decide +kernel)) (nomark _)) (pe_one (pe_def D_isNumber (hr.mono (by omega)) (pa_cons (pv 3) (pa_cons pe_int (pa_cons (pe_op op_sub (pv 1) pe_int) pa_nil)))))))))), ?_⟩
  rcases h with ⟨Tn, ty, ne, q⟩ | ⟨p, xs, rfl, tp, ne, q⟩ | ⟨p, u, v, Tu, rfl, tp, ty, ne, q⟩ | ⟨p, wd, v, Tv, rfl, tp, ty, q⟩
  · exact ⟨x, rfl, x, Tn, rfl, ty, Tn, "tuple", rfl, rfl, _, rfl, iteT' (by simp [ne]) (iteT' rfl q)⟩
  · have hT := tp.sq (K := K)
    refine ⟨.ref p, rfl, .ref p, "tuple", rfl, .tup hT, "tuple", "tuple", rfl, rfl, _, rfl, iteNS rfl ?_⟩
    exact ⟨.ref p, rfl, p, _, rfl, .inr hT, rfl, _, rfl, iteT' (by simp; omega) q⟩
  · have hT := tp.sq (K := K)
    refine ⟨.ref p, rfl, .ref p, "tuple", rfl, .tup hT, "tuple", "tuple", rfl, rfl, _, rfl, iteNS rfl ?_⟩
    refine ⟨.ref p, rfl, p, _, rfl, .inr hT, rfl, _, rfl, iteF' rfl ?_⟩
    refine ⟨.ref p, rfl, p, _, rfl, hT, rfl, _, _, rfl, _, _, rfl, rfl, ?_⟩
    exact ⟨u, rfl, u, Tu, rfl, ty, Tu, "str", rfl, rfl, _, rfl, iteF' (by simp [ne]) q⟩
  · have hT := tp.sq (K := K)
    refine ⟨.ref p, rfl, .ref p, "tuple", rfl, .tup hT, "tuple", "tuple", rfl, rfl, _, rfl, iteNS rfl ?_⟩
    refine ⟨.ref p, rfl, p, _, rfl, .inr hT, rfl, _, rfl, iteF' rfl ?_⟩
    refine ⟨.ref p, rfl, p, _, rfl, hT, rfl, _, _, rfl, _, _, rfl, rfl, ?_⟩
    refine ⟨.str wd, rfl, .str wd, "str", rfl, .str _, "str", "str", rfl, rfl, _, rfl, iteT' (decide_eq_true rfl) ?_⟩
    exact ⟨v, rfl, .int n, rfl, (n : Int), 1, rfl, rfl, v, Tv, 0, (n : Int) - 1, rfl, ty, q⟩
theorem choice_in {ln : List Int} {wy : List Bool} {S : Stand} {k : Nat} {ch : Mv × Spot} (h : ch ∈ choices ln wy S k) (hk : k < S.length) : ch.1 ∈ allowed ln wy S ∧ ch.1.2 = k := by
  obtain ⟨e, _⟩ := mem_choices (m := ch.1) (s := ch.2) h
  refine ⟨?_, e⟩
  unfold allowed allPairs
  exact List.mem_map.mpr ⟨ch, List.mem_flatMap.mpr ⟨k, List.mem_range.mpr hk, h⟩, rfl⟩
theorem eqv_other {m : Mv} {wd : Str} {k : Nat} (h : dW m.1 ≠ wd) : PyData.eqv (dM m) (.tuple [.str wd, .int (k : Nat)]) = false := by
  obtain ⟨w1, k1⟩ := m
  simp only [dM, PyData.eqv, PyData.eqvAll, Bool.and_true]
  rw [str_beq]
  have h' : ¬ dW w1 = wd := h
  simp [h']
theorem TyB.same {K : PySem.W.Frag} {H H' : Hp} {x : V} {Tn : String} (s : Same H H') (t : TyB K H x Tn) : TyB K H' x Tn := by
  cases t with
  | non => exact .non
  | bl b => exact .bl b
  | int i => exact .int i
  | str z => exact .str z
  | byt b => exact .byt b
  | lst h => exact .lst (s.seq h)
  | tup h => exact .tup (by
    rcases h with (h | ⟨o, h⟩) | h
    · exact .inl (.inl (s _ _ h))
    · exact .inl (.inr ⟨o, s _ _ h⟩)
    · exact .inr h)
  | dK h => exact .dK (s _ _ h)
/-- a pair of a text and a train, looked for among the moves -/
def Asks (H : Hp) (ln : List Int) (wy : List Bool) (S : Stand) (mv : V) (W : Mv × Spot → Prop) (N : Prop) : Prop := ∃ (p : Addr) (wd : Str) (k : Nat), mv = .ref p ∧ TupAt H p [.str wd, .int (k : Nat)] ∧ k < S.length ∧ SeqAt.shaped (.tuple [.str wd, .int (k : Nat)]) = true ∧
  (∀ ch ∈ choices ln wy S k, PyData.eqv (dM ch.1) (.tuple [.str wd, .int (k : Nat)]) = true → ch.1.2 = k → W ch) ∧ ((∀ ch ∈ choices ln wy S k, PyData.eqv (dM ch.1) (.tuple [.str wd, .int (k : Nat)]) = false) → N)
theorem ok_behindR (T : Txt K mg) {L : Addr} {C : Er → Addr} (E : Errs K mg L C) : DefOkR P w K mg base 5 "behind" ["lane", "ways", "stand", "move"] (spBehindR K C) := by
  have D_needStand : DefOk P w K mg base 4 "need_stand" ["lane", "ways", "stand"] (spNeedStand K) := ok_needStand T
  have D_isMove : DefOk P w K mg base 2 "is_move" ["thing", "trains"] (spIsMoveG K) := ok_isMoveG T
  have D_choices : DefOk P w K mg base 3 "choices" ["lane", "ways", "stand", "train"] (spChoices K) := ok_choices T
  refine T.f_behind.okR sc_behind (fun vs H Q E h => by obtain ⟨a, b, c, mv, ln, wy, S, rfl, _⟩ := h; rfl) (fun f cdv A outer s H vs Q XE hr h => ?_)
  obtain ⟨a, b, c, mv, ln, wy, S, rfl, hL, hW, hS, ok, h⟩ := h
  have cs : Asks H ln wy S mv (fun ch => ∀ H' q, Same H H' → StandAt H' q (S.set ch.1.2 ch.2) → Q (.ref q) H') (∀ H', Same H H' → XE (.ref (C .move)) none H') ∨
      (((∃ Tn, TyB K H mv Tn ∧ Tn ≠ "tuple") ∨ (∃ p xs, mv = .ref p ∧ TupAt H p xs ∧ xs.length ≠ 2) ∨ (∃ p u v Tu, mv = .ref p ∧ TupAt H p [u, v] ∧ TyB K H u Tu ∧ Tu ≠ "str") ∨ (∃ p wd v Tv, mv = .ref p ∧ TupAt H p [.str wd, v] ∧ TyB K H v Tv ∧ isNum v 0 ((S.length : Int) - 1) = false)) ∧ ∀ H', Same H H' → XE (.ref (C .move)) none H') := by
    rcases h with ⟨p, m, sp, rfl, hm, hk, hch, q⟩ | ⟨no, q⟩
    · refine .inl ⟨p, dW m.1, m.2, rfl, hm, hk, shaped_move m, fun ch hc e ek H' q' s' h' => ?_, fun hn => ?_⟩
      · have e1 : PyData.eqv (dM ch.1) (dM m) = true := e
        rw [eqv_move] at e1
        have e2 : ch.1 = m := of_decide_eq_true e1
        have hc' : (m, ch.2) ∈ choices ln wy S m.2 := by rw [← e2]; rw [← e2] at hc; exact hc
        have e3 := choice_one hc' hch
        rw [e2, e3] at h'
        exact q H' q' s' h'
      · have e1 : PyData.eqv (dM m) (dM m) = false := hn _ hch
        rw [eqv_move] at e1
        simp at e1
    · cases no with
      | other ty ne => exact .inr ⟨.inl ⟨_, ty, ne⟩, q⟩
      | long tp ne => exact .inr ⟨.inr (.inl ⟨_, _, rfl, tp, ne⟩), q⟩
      | word tp ty ne => exact .inr ⟨.inr (.inr (.inl ⟨_, _, _, _, rfl, tp, ty, ne⟩)), q⟩
      | train tp ty ne => exact .inr ⟨.inr (.inr (.inr ⟨_, _, _, _, rfl, tp, ty, ne⟩)), q⟩
      | @none p wd k tp hk sh nn =>
        refine .inl ⟨p, wd, k, rfl, tp, hk, sh, fun ch hc e ek => ?_, fun _ => q⟩
        obtain ⟨h1, h2⟩ := choice_in hc hk
        have h3 : (ch.1.1, k) ∈ allowed ln wy S := by rw [← h2]; exact h1
        rw [eqv_other (nn _ h3)] at e
        cases e
  clear h
  refine ⟨_, (pss_cons (ps_expr (pe_def D_needStand (hr.mono (by omega)) (pa_cons (pv 0) (pa_cons (pv 1) (pa_cons (pv 2) pa_nil)))))
      (pss_cons (ps_if (pt_not (pt_val (pe_def D_isMove (hr.mono (by omega)) (pa_cons (pv 3) (pa_cons (pe_callB call_len_seq (by rfl) T.b_len (by decide +kernel) (pa_cons (pv 2) pa_nil)) pa_nil))))) (pss_one (ps_err (E.at_ .move) rfl (L2N.takes_of rfl rfl rfl rfl))) pss_nil)
      (pss_cons (ps_set (i := 4) sc_behind.nd rfl (.inl rfl) (pe_ix (r := rIxT K) ix_tup (pv 3) pe_int (fun _ _ => rfl)))
      (pss_cons (ps_for (passes_of rfl) rfl (pi_listK (K := K) (pe_def D_choices (hr.mono (by omega)) (pa_cons (pv 0) (pa_cons (pv 1) (pa_cons (pv 2) (pa_cons (pv 4) pa_nil)))))) (pg_tup rfl (pgs_cons (pg_name (i := 5) sc_behind.nd rfl (.inl rfl)) (pgs_cons (pg_name (i := 6) sc_behind.nd rfl (.inl rfl)) pgs_nil))) (pss_one (ps_if (pt_cmpR (r := rEqD K) (op_eqD (hu64 hr)) (pv 5) (pv 3) (nomark _)) (pss_one (ps_ret (pe_op (r := rCatF K) op_catF (pe_op (r := rCatF K) op_catF (pe_slice (r := rSlF K) sl_tupF (pv 2) po_none (po_some (pv 4))) (pe_tupF (pa_cons (pv 6) pa_nil))) (pe_slice (r := rSlF K) sl_tupF (pv 2) (po_some (pe_op op_add (pv 4) pe_int)) po_none)))) pss_nil)))
      (pss_one (ps_err (E.at_ .move) rfl (L2N.takes_of rfl rfl rfl rfl))))))), ?_⟩
  refine ⟨.ref a, rfl, .ref b, rfl, .ref c, rfl, a, b, c, ln, wy, S, rfl, hL, hW, hS, ok, fun H1 s1 => ?_⟩
  obtain ⟨xs, ec, im⟩ := id hS
  have zl := StandAt.len im
  have z6 := stand_size ok im
  refine ⟨mv, rfl, .ref c, rfl, c, xs, rfl, .inr (Ti.of s1 _ _ ec).sq, mv, xs.length, rfl, ?_⟩
  rcases cs with ⟨p, wd, k, rfl, tp, hk, sh, win, lose⟩ | ⟨bad, q⟩
  · have tp1 := Ti.of s1 _ _ tp
    have en : isNum (.int (k : Nat)) 0 ((xs.length : Int) - 1) = true := by
      show (decide ((0 : Int) ≤ k) && decide ((k : Int) ≤ xs.length - 1)) = true
      rw [decide_eq_true (by omega), decide_eq_true (by omega)]
      rfl
    refine .inr (.inr (.inr ⟨p, wd, .int (k : Nat), "int", rfl, tp1, .int _, ?_⟩))
    rw [en]
    refine ⟨_, rfl, iteF' rfl ?_⟩
    refine ⟨.ref p, rfl, p, _, 1, _, rfl, rfl, tp1.sq, at1, ?_⟩
    refine ⟨.ref a, rfl, .ref b, rfl, .ref c, rfl, .int k, rfl, a, b, c, k, ln, wy, S, rfl, s1.seq hL, s1.seq hW, hS.mono (Ti.of s1), ok, hk, fun H2 d xs1 s2 hd ed id1 => ⟨d, rfl, ⟨_, .inl (.inl ed)⟩, ?_⟩⟩
    have s12 := s1.trans s2
    have lx : xs1.length = (choices ln wy S k).length := by rw [id1.length, List.length_map]
    refine for_it (walk_list (K := K) (a := d) (xs := xs1)) (fun i σ H3 => H3 = H2 ∧ (∃ y5 y6, σ = [some (.ref a), some (.ref b), some (.ref c), some (.ref p), some (.int k), y5, y6]) ∧ ∀ j ch, j < i → (choices ln wy S k)[j]? = some ch → PyData.eqv (dM ch.1) (.tuple [.str wd, .int (k : Nat)]) = false)
      ⟨rfl, ⟨none, none, rfl⟩, fun j ch hj _ => absurd hj (Nat.not_lt_zero j)⟩ (fun i σ H3 _ p3 => by rw [p3.1]; exact .inl (.inl ed)) (fun i x σ H3 H4 hi p3 y => ?_) (fun σ H3 p3 => ?_)
    · obtain ⟨rfl, ⟨y5, y6, rfl⟩, hno⟩ := p3
      obtain ⟨rfl, ex⟩ := y
      obtain ⟨dd, edd, imd⟩ := id1.getV ex
      rw [List.getElem?_map] at edd
      cases ech : (choices ln wy S k)[i]? with
      | none => rw [ech] at edd; cases edd
      | some ch =>
        rw [ech] at edd
        cases edd
        obtain ⟨t, u1, u2, rfl, tt, i1, i2⟩ := im_pair imd
        obtain ⟨tm, rfl, hmv⟩ := im_move i1
        obtain ⟨ts, rfl, hsp⟩ := im_spot i2
        have e2 : ch.1.2 = k := (choice_in (mem_of_some ech) hk).2
        refine ⟨t, _, rfl, tt.sq, rfl, _, _, rfl, _, _, rfl, rfl, ?_⟩
        refine ⟨.ref tm, rfl, .ref p, rfl, dM ch.1, .tuple [.str wd, .int (k : Nat)], hmv.im.dp, .tup (Ti.of s2 _ _ tp1).sq (.cons (.str _) (.cons (.int _) .nil)), shaped_move _, sh, _, rfl, ?_⟩
        refine ite2 (fun e => ?_) (fun e => ?_)
        · have w0 : ∀ (H' : Hp) (q : Addr), Same H H' → StandAt H' q (S.set ch.1.2 ch.2) → Q (.ref q) H' := win ch (mem_of_some ech) e e2
          rw [e2] at w0
          refine ⟨.ref c, rfl, .int k, rfl, k, rfl, slF (Ti.of s12 _ _ ec) fun H5 p5 s5 t5 => ?_⟩
          rw [cut_to (by omega)] at t5
          refine ⟨.ref ts, rfl, one_size, nT_q fun H6 p6 s6 t6 => catF (Ti.of s6 _ _ t5) t6 (by simp [sizeLine_eq]; omega) fun H7 p7 s7 t7 => ?_⟩
          have s57 := (s5.trans s6).trans s7
          refine ⟨.ref c, rfl, .int k, rfl, (k : Int), 1, rfl, rfl, (k : Int) + 1, rfl, ?_⟩
          show rSlF K (.ref c) (some ((k : Int) + 1)) none H7 fun y H2 => rCatF K (.ref p7) y H2 Q
          refine slF (Ti.of (s12.trans s57) _ _ ec) fun H8 p8 s8 t8 => ?_
          have t8' : TupAt H8 p8 (xs.drop (k + 1)) := by
            have e2 : cutV xs (some ((k : Int) + 1)) none = xs.drop (k + 1) := by
              have := cut_from (xs := xs) (k := k + 1) (by omega)
              rw [← this]
              congr 2
            rw [← e2]
            exact t8
          refine catF (Ti.of s8 _ _ t7) t8' (by simp [sizeLine_eq]; omega) fun H9 p9 s9 t9 => ?_
          rw [set_parts (by omega)] at t9
          have s29 := (s57.trans s8).trans s9
          refine w0 H9 p9 (s12.trans s29) ⟨_, t9, ?_⟩
          rw [List.map_set]
          exact ImAll.set (SpotAt.im (Ti.of s29 _ _ hsp)) k (im.mono (Ti.of (s12.trans s29)))
        · refine ⟨rfl, ⟨_, _, rfl⟩, fun j c2 hj ej => ?_⟩
          by_cases hji : j = i
          · subst hji
            rw [ech] at ej
            cases ej
            exact Bool.eq_false_iff.mpr e
          · exact hno j c2 (by omega) ej
    · obtain ⟨rfl, _, hno⟩ := p3
      refine lose (fun ch hc => ?_) _ s12
      obtain ⟨j, hj, ej⟩ := List.getElem_of_mem hc
      exact hno j ch (by omega) (by rw [List.getElem?_eq_getElem hj, ej])
  · rcases bad with ⟨Tn, ty, ne⟩ | ⟨p, ys, rfl, tp, ne⟩ | ⟨p, u, v, Tu, rfl, tp, ty, ne⟩ | ⟨p, wd, v, Tv, rfl, tp, ty, ne⟩
    · exact .inl ⟨Tn, TyB.same s1 ty, ne, _, rfl, iteT' rfl (q _ s1)⟩
    · exact .inr (.inl ⟨p, ys, rfl, Ti.of s1 _ _ tp, ne, _, rfl, iteT' rfl (q _ s1)⟩)
    · exact .inr (.inr (.inl ⟨p, u, v, Tu, rfl, Ti.of s1 _ _ tp, TyB.same s1 ty, ne, _, rfl, iteT' rfl (q _ s1)⟩))
    · refine .inr (.inr (.inr ⟨p, wd, v, Tv, rfl, Ti.of s1 _ _ tp, TyB.same s1 ty, ?_⟩))
      rw [zl, ne]
      exact ⟨_, rfl, iteT' rfl (q _ s1)⟩
end
end Slx

set_option Elab.async false
set_option linter.all false
set_option maxRecDepth 100000
set_option maxHeartbeats 4000000
namespace Slx
open PySem PySem.Spec PyProof.Rows L2 Sl
section
variable {P : Program} {w : World} {K : PySem.W.Frag} {mg : Str → Option Value} {base : Heap}
/-- a cell of the script -/
def cell (ns : List Int) (k : Nat) : Int := ns.getD k 0
def spCellAt (K : PySem.W.Frag) : Sp := fun vs H Q _ => ∃ a ns k, vs = [.ref a, .int ((k : Nat) : Int)] ∧ SqL K H a (ns.map V.int) ∧ Q (.int (cell ns k)) H
theorem ok_cellAt (T : Txt K mg) : DefOk P w K mg base 1 "_law_cell_at" ["_law_script", "_law_k"] (spCellAt K) := by
  refine T.f_lCellAt.ok sc_lCellAt (fun vs H Q E h => by obtain ⟨a, ns, k, rfl, _⟩ := h; rfl) (fun f cdv A outer s H vs Q E hr h => ?_)
  obtain ⟨a, ns, k, rfl, hL, q⟩ := h
  refine ⟨_, (pss_cons (ps_if (pt_cmpR op_lt (pv 1) (pe_callB call_len_seq (by rfl) T.b_len (by decide +kernel) (pa_cons (pv 0) pa_nil)) (nomark _)) (pss_one (ps_ret (pe_ix (r := rIxL K) ix_list (pv 0) (pv 1) (fun _ _ => rfl)))) pss_nil)
      (pss_one (ps_ret pe_int))), ?_⟩
  refine ⟨.int k, rfl, .ref a, rfl, a, _, rfl, .inl hL, _, _, rfl, rfl, _, rfl, ite2 (fun e => ?_) (fun e => ?_)⟩
  · have hk : k < ns.length := by
      have := of_decide_eq_true e
      rw [List.length_map] at this
      omega
    exact ⟨.ref a, rfl, .int k, rfl, a, _, (k : Int), _, rfl, rfl, hL, lane_at hk, q⟩
  · have hk : ¬ k < ns.length := fun z => e (decide_eq_true (by rw [List.length_map]; omega))
    have e2 : cell ns k = 0 := by
      unfold cell
      rw [List.getD_eq_getElem?_getD, List.getElem?_eq_none (by omega)]
      rfl
    rw [e2] at q
    exact q
def spWhole : Sp := fun vs H Q _ => ∃ i, vs = [.int i] ∧ Q (.bl true) H
theorem ok_whole (T : Txt K mg) : DefOk P w K mg base 1 "_law_whole" ["_law_found"] spWhole := by
  refine T.f_lWhole.ok sc_lWhole (fun vs H Q E h => by obtain ⟨i, rfl, _⟩ := h; rfl) (fun f cdv A outer s H vs Q E hr h => ?_)
  obtain ⟨i, rfl, q⟩ := h
  refine ⟨_, (pss_one (ps_ret (pe_and (pe_callB (r := rIsi K) (id := "isinstance") call_isi (by rfl) T.b_isinstance (by decide +kernel) (pa_cons (pv 0) (pa_cons (pe_ty (T := "int") T.b_int (by decide +kernel)) pa_nil))) (pe_one (pe_not (pe_callB (r := rIsi K) (id := "isinstance") call_isi (by rfl) T.b_isinstance (by decide +kernel) (pa_cons (pv 0) (pa_cons (pe_ty (T := "bool") T.b_bool (by decide +kernel)) pa_nil)))))))), ?_⟩
  refine ⟨.int i, rfl, .int i, .ty "int", .type "int", .type "int", true, rfl, .ty _, .base (.int i), by rfl, _, rfl, iteT ?_⟩
  exact ⟨.int i, rfl, .int i, .ty "bool", .type "int", .type "bool", false, rfl, .ty _, .base (.int i), kit_ty (by decide +kernel), _, rfl, q⟩
/-- what the law makes of the script's cells for its draws: some whole number -/
def spMixed (K : PySem.W.Frag) : Sp := fun vs H Q _ => ∃ a, ∃ ns : List Int, ∃ k, vs = [.ref a, .int ((k : Nat) : Int)] ∧ SqL K H a (ns.map V.int) ∧ k ≤ 100 ∧ ∀ m, Q (.int m) H
theorem ok_mixed (T : Txt K mg) : DefOk P w K mg base 2 "_law_mixed" ["_law_script", "_law_k"] (spMixed K) := by
  have D_lCellAt : DefOk P w K mg base 1 "_law_cell_at" ["_law_script", "_law_k"] (spCellAt K) := ok_cellAt T
  refine T.f_lMixed.ok sc_lMixed (fun vs H Q E h => by obtain ⟨a, ns, k, rfl, _⟩ := h; rfl) (fun f cdv A outer s H vs Q E hr h => ?_)
  obtain ⟨a, ns, k, rfl, hL, hk, q⟩ := h
  refine ⟨_, (pss_cons (ps_set (i := 2) sc_lMixed.nd rfl (.inl rfl) (pe_op op_add (pe_def D_lCellAt (hr.mono (by omega)) (pa_cons (pv 0) (pa_cons pe_int pa_nil))) (pe_op op_mul pe_int (pe_def D_lCellAt (hr.mono (by omega)) (pa_cons (pv 0) (pa_cons pe_int pa_nil))))))
      (pss_one (ps_ret (pe_op op_fdiv (pe_op op_mod (pe_op op_mul (pe_op op_mod (pe_op op_add (pe_op op_add (pe_def D_lCellAt (hr.mono (by omega)) (pa_cons (pv 0) (pa_cons (pv 1) pa_nil))) (pe_op op_mul (pv 2) (pe_op op_add (pv 1) pe_int))) (pe_op op_mul pe_int (pv 1))) pe_int) pe_int) pe_int) pe_int)))), ?_⟩
  refine ⟨.ref a, rfl, a, ns, 0, rfl, hL, .ref a, rfl, a, ns, 1, rfl, hL, _, _, rfl, rfl, .inl ⟨by decide, by decide⟩, _, _, rfl, rfl, ?_⟩
  refine ⟨.ref a, rfl, .int k, rfl, a, ns, k, rfl, hL, _, rfl, .int k, rfl, _, _, rfl, rfl, _, _, rfl, rfl, .inr ⟨by omega, by omega⟩, _, _, rfl, rfl, .int k, rfl, _, _, rfl, rfl, .inl ⟨by decide, by decide⟩, _, _, rfl, rfl, ?_⟩
  refine ⟨_, _, rfl, rfl, (by show (0 : Int) < 1000000007; decide), ?_⟩
  generalize cell ns k + (cell ns 0 + 3 * cell ns 1) * ((k : Int) + 1) + 104729 * (k : Int) = z
  have h1 := Int.emod_nonneg z (show (1000000007 : Int) ≠ 0 by decide)
  have h2 := Int.emod_lt_of_pos z (show (0 : Int) < 1000000007 by decide)
  refine ⟨_, _, rfl, rfl, .inl ⟨by omega, by omega⟩, _, _, rfl, rfl, (by show (0 : Int) < 2147483647; decide), _, _, rfl, rfl, ⟨by decide, by decide⟩, q _⟩
theorem shaped_list (S : Stand) : SeqAt.shaped (.list (S.map dS)) = true := by
  unfold SeqAt.shaped
  rw [show PyData.canLay0 (.list (S.map dS)) = true from canLay_spots S]
  have := depth_spots S
  have h : PyData.depth (.list (S.map dS)) ≤ 64 := by
    simp only [PyData.depth]; omega
  rw [decide_eq_true h]
  rfl
def spotsOf (n : Nat) : List Spot := (List.range n).map Spot.lane ++ (List.range n).map Spot.side
theorem spotsOf_ok {ln : List Int} {s : Spot} (h : s ∈ spotsOf ln.length) : okSpot ln s ∧ s ≠ .out := by
  rcases List.mem_append.mp h with h | h
  · obtain ⟨k, hk, rfl⟩ := List.mem_map.mp h
    exact ⟨List.mem_range.mp hk, by simp⟩
  · obtain ⟨k, hk, rfl⟩ := List.mem_map.mp h
    exact ⟨List.mem_range.mp hk, by simp⟩
/-- a list of ImAll by places -/
theorem im_of {H : Hp} {ys : List V} {n : Nat} {f : Nat → PyData} (hl : ys.length = n) (h : ∀ (i : Nat) (y : V), ys[i]? = some y → Im H y (f i)) : ImAll H ys ((List.range n).map f) := by
  refine ImAll.of (by simp [hl]) fun i v d hv hd => ?_
  have hi : i < n := by rw [← hl]; exact lt_of_some hv
  have e : d = f i := by
    rw [List.getElem?_map, List.getElem?_range hi] at hd
    exact (Option.some.inj hd).symm
  rw [e]
  exact h i v hv
def spLSpot (K : PySem.W.Frag) : Sp := fun vs H Q _ => ∃ a c ln xs S ce, vs = [.ref a, .ref c, .int ce] ∧ LaneAt K H a ln ∧ OkLane ln ∧ H c = some (.lst xs) ∧ ImAll H xs (S.map dS) ∧
  ∀ H' p sp, Same H H' → SpotAt H' p sp → okSpot ln sp → (sp = .out ∨ hasRoom ln S sp = true) → Q (.ref p) H'
theorem ok_lSpot (T : Txt K mg) : DefOk P w K mg base 1 "_law_spot" ["_law_lane", "_law_stand", "_law_cell"] (spLSpot K) := by
  refine T.f_lSpot.ok sc_lSpot (fun vs H Q E h => by obtain ⟨a, c, ln, xs, S, ce, rfl, _⟩ := h; rfl) (fun f cdv A outer s H vs Q E hr h => ?_)
  obtain ⟨a, c, ln, xs, S, ce, rfl, hL, ok, hc, im, q⟩ := h
  have h1 := ok.one
  have h8 := ok.most
  have nl : (ln.map V.int).length = ln.length := List.length_map ..
  refine ⟨_, (pss_cons (ps_set (i := 4) sc_lSpot.nd rfl (.inl rfl) (pe_op op_cat (pe_lc (g := gName 3) (own := [("_law_place", 3)]) rfl sc_lSpot.nd (pi_range1 (by rfl) T.b_range (pa_cons (pe_callB call_len_seq (by rfl) T.b_len (by decide +kernel) (pa_cons (pv 0) pa_nil)) pa_nil)) (blkOk_by (own := [("_law_place", 3)]) (N := ["_law_lane", "_law_stand", "_law_cell", "_law_place", "_law_spots", "_law_k", "_law_spot_here"]) (sc := defScope s_lSpot) (by decide +kernel)) (fun _ _ _ _ _ => (pg_name (i := 3) sc_lSpot.nd rfl (.inl rfl))) (fun _ _ _ _ _ => pts_nil) (fun _ _ _ _ _ => (pe_tupF (pa_cons pe_str (pa_cons (pv 3) pa_nil))))) (pe_lc (g := gName 3) (own := [("_law_place", 3)]) rfl sc_lSpot.nd (pi_range1 (by rfl) T.b_range (pa_cons (pe_callB call_len_seq (by rfl) T.b_len (by decide +kernel) (pa_cons (pv 0) pa_nil)) pa_nil)) (blkOk_by (own := [("_law_place", 3)]) (N := ["_law_lane", "_law_stand", "_law_cell", "_law_place", "_law_spots", "_law_k", "_law_spot_here"]) (sc := defScope s_lSpot) (by decide +kernel)) (fun _ _ _ _ _ => (pg_name (i := 3) sc_lSpot.nd rfl (.inl rfl))) (fun _ _ _ _ _ => pts_nil) (fun _ _ _ _ _ => (pe_tupF (pa_cons pe_str (pa_cons (pv 3) pa_nil)))))))
      (pss_cons (ps_if (pt_cmpR op_eq (pe_op op_mod (pe_op op_fdiv (pv 2) pe_int) pe_int) pe_int (nomark _)) (pss_one (ps_ret (pe_tupF (pa_cons pe_str pa_nil)))) pss_nil)
      (pss_cons (ps_for PassesOwn.never rfl (pi_range1 (by rfl) T.b_range (pa_cons (pe_callB call_len_seq (by rfl) T.b_len (by decide +kernel) (pa_cons (pv 4) pa_nil)) pa_nil)) (pg_name (i := 5) sc_lSpot.nd rfl (.inl rfl)) (pss_cons (ps_set (i := 6) sc_lSpot.nd rfl (.inl rfl) (pe_ix (r := rIxL K) ix_list (pv 4) (pe_op op_mod (pe_op op_add (pv 2) (pv 5)) (pe_callB call_len_seq (by rfl) T.b_len (by decide +kernel) (pa_cons (pv 4) pa_nil))) (fun _ _ => rfl)))
      (pss_one (ps_if (PW.pt (pw_or (PW.pt (pw_and (pt_cmpR op_eq (pe_ix (r := rIxT K) ix_tup (pv 6) pe_int (fun _ _ => rfl)) pe_str (nomark _)) (pw_and1 (pt_cmpR (r := rNotInD K) (op_notInD (hu65 hr)) (pv 6) (pv 1) (by rfl))))) (pw_or1 (PW.pt (pw_and (pt_cmpR op_eq (pe_ix (r := rIxT K) ix_tup (pv 6) pe_int (fun _ _ => rfl)) pe_str (nomark _)) (pw_and1 (pt_cmpR op_lt (pe_bm PySem.F.plainAttrs_list PySem.F.slot_list_count PySem.F.type_list_count (r := rCountL K) (mt_countL (hu65 hr)) (pv 1) (pa_cons (pv 6) pa_nil)) (pe_ix (r := rIxL K) ix_list (pv 0) (pe_ix (r := rIxT K) ix_tup (pv 6) pe_int (fun _ _ => rfl)) (fun _ _ => rfl)) (nomark _)))))))) (pss_one (ps_ret (pv 6))) pss_nil))))
      (pss_one (ps_ret (pe_tupF (pa_cons pe_str pa_nil))))))), ?_⟩
  refine ⟨.ref a, rfl, a, _, rfl, .inl hL, _, rfl, by omega, by omega, fun D1 hD1 => ?_⟩
  refine lc_map (walk_range (lo := 0) (n := ((ln.map V.int).length : Int).toNat)) (fun i y H' => ∃ p, y = .ref p ∧ SpotAt H' p (.lane i)) (fun i y H1 H2 t e => by obtain ⟨p, rfl, hp⟩ := e; exact ⟨p, rfl, t _ _ hp⟩) (Nat.lt_of_le_of_lt (by omega : _ ≤ 8) (by decide)) hD1 (fun _ _ => trivial)
    (fun i x H1 H2 k hi s1 y hk => ?_) (fun H1 ys s1 e1 l1 el => ?_)
  · obtain ⟨rfl, rfl⟩ := y
    refine ⟨rfl, .int ((0 : Int) + (i : Int)), rfl, two_size, nT_q fun H3 p s3 tp => hk _ _ s3 ⟨p, rfl, ?_⟩⟩
    rw [show ((0 : Int) + (i : Int)) = (i : Int) by omega] at tp
    exact tp
  refine ⟨.ref a, rfl, a, _, rfl, .inl (s1.seq hL), _, rfl, by omega, by omega, fun D2 hD2 => ?_⟩
  refine lc_map (walk_range (lo := 0) (n := ((ln.map V.int).length : Int).toNat)) (fun i y H' => ∃ p, y = .ref p ∧ SpotAt H' p (.side i)) (fun i y H1 H2 t e => by obtain ⟨p, rfl, hp⟩ := e; exact ⟨p, rfl, t _ _ hp⟩) (Nat.lt_of_le_of_lt (by omega : _ ≤ 8) (by decide)) hD2 (fun _ _ => trivial)
    (fun i x H3 H4 k hi s2 y hk => ?_) (fun H2 zs s2 e2 l2 el2 => ?_)
  · obtain ⟨rfl, rfl⟩ := y
    refine ⟨rfl, .int ((0 : Int) + (i : Int)), rfl, two_size, nT_q fun H5 p s3 tp => hk _ _ s3 ⟨p, rfl, ?_⟩⟩
    rw [show ((0 : Int) + (i : Int)) = (i : Int) by omega] at tp
    exact tp
  have s12 := s1.trans s2
  have l1' : ys.length = ln.length := by omega
  have l2' : zs.length = ln.length := by omega
  refine ⟨D1, D2, ys, zs, rfl, rfl, s2 _ _ e1, e2, Nat.le_of_lt (Nat.lt_of_le_of_lt (by omega : _ ≤ 16) (by decide)), fun D3 hD3 => ?_⟩
  have s3 := s12.trans (same_new (o := .lst (ys ++ zs)) hD3)
  have i3 : ImAll (upd H2 D3 (.lst (ys ++ zs))) (ys ++ zs) ((spotsOf ln.length).map dS) := by
    unfold spotsOf
    rw [List.map_append, List.map_map, List.map_map]
    have t2 := Ti.of s2
    refine ImAll.mono (Ti.new hD3) (ImAll.append (im_of l1' fun i y hy => ?_) (im_of l2' fun i y hy => ?_))
    · obtain ⟨p, rfl, hp⟩ := el i y hy
      exact (SpotAt.im (t2 _ _ hp))
    · obtain ⟨p, rfl, hp⟩ := el2 i y hy
      exact hp.im
  generalize hH3 : upd H2 D3 (.lst (ys ++ zs)) = H3 at s3 i3
  have eD3 : H3 D3 = some (.lst (ys ++ zs)) := by rw [← hH3]; exact upd_same
  -- now and then out
  refine ⟨.int ce, rfl, _, _, rfl, rfl, ⟨by decide, by decide⟩, _, _, rfl, rfl, (by show (0 : Int) < 9; decide), rfl, _, rfl, ite2 (fun _ => ?_) (fun _ => ?_)⟩
  · exact ⟨one_size, nT_q fun H4 p s4 tp => q H4 p .out (s3.trans s4) tp trivial (.inl rfl)⟩
  have lyz : (ys ++ zs).length = 2 * ln.length := by rw [List.length_append]; omega
  have lso : (spotsOf ln.length).length = 2 * ln.length := by unfold spotsOf; simp; omega
  refine ⟨.ref D3, rfl, D3, _, rfl, .inl (.inl (.inl eD3)), _, rfl, by omega, by omega, ?_⟩
  refine for_it (walk_range (lo := 0) (n := ((ys ++ zs).length : Int).toNat)) (fun i σ H4 => H4 = H3 ∧ ∃ y5 y6, σ = [some (.ref a), some (.ref c), some (.int ce), none, some (.ref D3), y5, y6]) ⟨rfl, none, none, rfl⟩ (fun _ _ _ _ _ => trivial) (fun i x σ H4 H5 hi p y => ?_) (fun σ H4 p => ?_)
  · obtain ⟨rfl, y5, y6, rfl⟩ := p
    obtain ⟨rfl, rfl⟩ := y
    have hpos : (0 : Int) < ((ys ++ zs).length : Int) := by omega
    have m0 := Int.emod_nonneg (ce + (0 + (i : Int))) (show ((ys ++ zs).length : Int) ≠ 0 by omega)
    have m1 := Int.emod_lt_of_pos (ce + (0 + (i : Int))) hpos
    obtain ⟨j, hj⟩ : ∃ j : Nat, (ce + (0 + (i : Int))) % ((ys ++ zs).length : Int) = j := ⟨_, (Int.toNat_of_nonneg m0).symm⟩
    have hjl : j < (spotsOf ln.length).length := by omega
    have esp : (spotsOf ln.length)[j]? = some ((spotsOf ln.length)[j]) := List.getElem?_eq_getElem hjl
    generalize hsp : (spotsOf ln.length)[j] = sp at esp
    obtain ⟨okp, np⟩ := spotsOf_ok (mem_of_some esp)
    obtain ⟨p, ep, hp⟩ := stand_get i3 esp
    refine ⟨.ref D3, rfl, .int ce, rfl, .int (0 + (i : Int)), rfl, _, _, rfl, rfl, .ref D3, rfl, D3, _, rfl, .inl (.inl (.inl eD3)), _, _, rfl, rfl, hpos, D3, ys ++ zs, _, .ref p, rfl, rfl, .inl (.inl eD3), (by rw [hj]; exact atI_nat ep), ?_⟩
    have hcx : H5 c = some (.lst xs) := s3 _ _ hc
    have imx := im.mono (Ti.of s3)
    cases sp with
    | out => exact absurd rfl np
    | lane m =>
      refine ⟨.ref p, rfl, p, _, 0, _, rfl, rfl, hp.sq, at0, rfl, _, rfl, iteT' (decide_eq_true rfl) ?_⟩
      refine ⟨.ref p, rfl, .ref c, rfl, dS (.lane m), S.map dS, (SpotAt.im hp).dp, .lst (.inl (.inl hcx)) imx.dp, shaped_spot _, shaped_list S, _, rfl, ?_⟩
      rw [any_spot]
      by_cases hin : Spot.lane m ∈ S
      · rw [decide_eq_true hin]
        refine iteF ⟨.ref p, rfl, p, _, 0, _, rfl, rfl, hp.sq, at0, rfl, _, rfl, iteF' (decide_eq_false (by decide)) (iteF ⟨rfl, _, _, rfl⟩)⟩
      · rw [decide_eq_false hin]
        refine iteT (iteT ⟨.ref p, rfl, q H5 p (.lane m) s3 hp okp (.inr (decide_eq_true ?_))⟩)
        have z : S.count (Spot.lane m) = 0 := List.count_eq_zero.mpr hin
        show ((S.count (Spot.lane m) : Nat) : Int) < 1
        omega
    | side m =>
      refine ⟨.ref p, rfl, p, _, 0, _, rfl, rfl, hp.sq, at0, rfl, _, rfl, iteF' (decide_eq_false (by decide)) (iteF ?_)⟩
      refine ⟨.ref p, rfl, p, _, 0, _, rfl, rfl, hp.sq, at0, rfl, _, rfl, iteT' (decide_eq_true rfl) ?_⟩
      refine ⟨.ref c, rfl, .inl ⟨rfl, _, .inl (.inl hcx)⟩, .ref p, rfl, .ref p, dS (.side m), S.map dS, rfl, .lst (.inl (.inl hcx)) imx.dp, (SpotAt.im hp).dp, shaped_list S, shaped_spot _, ?_⟩
      refine ⟨.ref a, rfl, .ref p, rfl, p, _, 1, _, rfl, rfl, hp.sq, at1, a, _, (m : Int), _, rfl, rfl, s3.seq hL, lane_at okp, _, _, rfl, rfl, _, rfl, ?_⟩
      rw [countP_spot]
      refine ite2 (fun e => ?_) (fun e => ?_)
      · exact ⟨.ref p, rfl, q H5 p (.side m) s3 hp okp (.inr e)⟩
      · exact ⟨rfl, _, _, rfl⟩
  · obtain ⟨rfl, y5, y6, rfl⟩ := p
    exact ⟨one_size, nT_q fun H4 p s4 tp => q H4 p .out (s3.trans s4) tp trivial (.inl rfl)⟩
end
end Slx

set_option Elab.async false
set_option linter.all false
set_option maxRecDepth 100000
set_option maxHeartbeats 4000000
namespace Slx
open PySem PySem.Spec PyProof.Rows L2 Sl
section
variable {P : Program} {w : World} {K : PySem.W.Frag} {mg : Str → Option Value} {base : Heap}
theorem arg2 {x : V} {i j : Int} (h : i = j) : ([x, .int i] : List V) = [x, .int j] := by rw [h]
theorem size8 : 8 ≤ sizeLine := by decide
/-- a spot with room comes to the stand -/
theorem room_append {ln : List Int} {S : Stand} {sp : Spot} (hl : S.length < 6) (h : ∀ s ∈ S, (S.count s : Int) ≤ mostAt ln s) (hs : sp = .out ∨ hasRoom ln S sp = true) : ∀ s ∈ S ++ [sp], ((S ++ [sp]).count s : Int) ≤ mostAt ln s := fun s hm => by
  have hc : ((S ++ [sp]).count s : Nat) = S.count s + (if sp = s then 1 else 0) := by
    rw [List.count_append]
    congr 1
    by_cases e : sp = s
    · subst e; simp
    · have e2 : (sp == s) = false := beq_eq_false_iff_ne.mpr e
      simp [List.count_cons, e, e2]
  rw [hc]
  by_cases e : sp = s
  · subst e
    rw [if_pos rfl]
    rcases hs with rfl | hs
    · have := List.count_le_length (a := Spot.out) (l := S)
      show _ ≤ (6 : Int)
      omega
    · have h2 : (S.count sp : Int) < mostAt ln sp := of_decide_eq_true hs
      omega
  · rw [if_neg e]
    rcases List.mem_append.mp hm with hm | hm
    · exact h s hm
    · exact absurd (List.mem_singleton.mp hm).symm e
/-- short lanes, or few trains -/
def Small (ln : List Int) (wy : List Bool) : Prop := (ln.length ≤ 4 ∧ wy.length ≤ 3) ∨ wy.length ≤ 2 ∨ ln.length ≤ 3
def spBuilt (K : PySem.W.Frag) : Sp := fun vs H Q _ => ∃ a, ∃ ns : List Int, vs = [.ref a] ∧ SqL K H a (ns.map V.int) ∧
  ∀ H' p a1 b1 c1 ln wy S, Same H H' → TupAt H' p [.ref a1, .ref b1, .ref c1] → H a1 = none → H b1 = none → H' a1 = some (.lst (ln.map V.int)) → H' b1 = some (.lst (wy.map fun b => V.str (wS b))) → a1 ≠ b1 → StandAt H' c1 S → OkStand ln wy S → Small ln wy → Q (.ref p) H'
theorem ok_built (T : Txt K mg) : DefOk P w K mg base 3 "_law_built" ["_law_script"] (spBuilt K) := by
  have D_lCellAt : DefOk P w K mg base 1 "_law_cell_at" ["_law_script", "_law_k"] (spCellAt K) := ok_cellAt T
  have D_lMixed : DefOk P w K mg base 2 "_law_mixed" ["_law_script", "_law_k"] (spMixed K) := ok_mixed T
  have D_lSpot : DefOk P w K mg base 1 "_law_spot" ["_law_lane", "_law_stand", "_law_cell"] (spLSpot K) := ok_lSpot T
  refine T.f_lBuilt.ok sc_lBuilt (fun vs H Q E h => by obtain ⟨a, ns, rfl, _⟩ := h; rfl) (fun f cdv A outer s H vs Q E hr h => ?_)
  obtain ⟨a, ns, rfl, hL, q⟩ := h
  refine ⟨_, (pss_cons (ps_set (i := 1) sc_lBuilt.nd rfl (.inl rfl) (pe_def D_lCellAt (hr.mono (by omega)) (pa_cons (pv 0) (pa_cons pe_int pa_nil))))
      (pss_cons (ps_set (i := 2) sc_lBuilt.nd rfl (.inl rfl) (pe_def D_lCellAt (hr.mono (by omega)) (pa_cons (pv 0) (pa_cons pe_int pa_nil))))
      (pss_cons (ps_set (i := 3) sc_lBuilt.nd rfl (.inl rfl) (pe_op op_add pe_int (pe_op op_mod (pv 1) pe_int)))
      (pss_cons (ps_set (i := 4) sc_lBuilt.nd rfl (.inl rfl) (pe_op op_add pe_int (pe_op op_mod (pv 2) pe_int)))
      (C8.pss_cut (ps_if (pt_cmpR op_eq (pe_op op_mod (pe_op op_fdiv (pv 1) pe_int) pe_int) pe_int (nomark _)) (pss_cons (ps_set (i := 3) sc_lBuilt.nd rfl (.inl rfl) (pe_op op_add pe_int (pe_op op_mod (pe_op op_fdiv (pv 1) pe_int) pe_int)))
      (pss_one (ps_set (i := 4) sc_lBuilt.nd rfl (.inl rfl) (pe_op op_add pe_int (pe_op op_mod (pv 2) pe_int))))) pss_nil)
      (C8.pss_cut (ps_if (pt_cmpR op_eq (pe_op op_mod (pe_op op_fdiv (pv 1) pe_int) pe_int) pe_int (nomark _)) (pss_cons (ps_set (i := 3) sc_lBuilt.nd rfl (.inl rfl) (pe_op op_add pe_int (pe_op op_mod (pe_op op_fdiv (pv 1) pe_int) pe_int)))
      (pss_one (ps_set (i := 4) sc_lBuilt.nd rfl (.inl rfl) (pe_op op_add pe_int (pe_op op_mod (pv 2) pe_int))))) pss_nil)
      (C8.pss_cut (ps_set (i := 5) sc_lBuilt.nd rfl (.inr rfl) (pe_ix (r := rIxL K) ix_list (pe_lst (pa_cons (pe_lst (pa_cons pe_int (pa_cons pe_int (pa_cons pe_int (pa_cons pe_int (pa_cons pe_int (pa_cons pe_int (pa_cons pe_int (pa_cons pe_int pa_nil))))))))) (pa_cons (pe_lst (pa_cons pe_int (pa_cons pe_int (pa_cons pe_int (pa_cons pe_int (pa_cons pe_int (pa_cons pe_int (pa_cons pe_int (pa_cons pe_int pa_nil))))))))) pa_nil))) (pe_callTy call_int1 (by rfl) T.b_int (by decide +kernel) (pa_cons (pe_cmpR op_gt (pe_op op_mod (pe_op op_fdiv (pv 2) pe_int) pe_int) pe_int (nomark _)) pa_nil)) (fun _ _ => rfl)))
      (pss_cons (ps_setLc (g := gName 6) (own := [("_law_k", 6)]) (i := 7) rfl sc_lBuilt.nd rfl rfl (sw_true rfl rfl rfl (by decide +kernel)) (pi_range1 (by rfl) T.b_range (pa_cons (pv 3) pa_nil)) (blkOk_by (own := [("_law_k", 6)]) (N := ["_law_script", "_law_first", "_law_second", "_law_many", "_law_trains", "_law_rooms", "_law_k", "_law_lane", "_law_ways", "_law_stand", "_law_cell"]) (sc := defScope s_lBuilt) (by decide +kernel)) (fun _ _ _ _ _ => (pg_name (i := 6) sc_lBuilt.nd rfl (.inl rfl))) (fun _ _ _ _ _ => pts_nil) (fun _ _ _ _ _ => (pe_ix (r := rIxL K) ix_list (pv 5) (pe_op op_mod (pe_def D_lMixed (hr.mono (by omega)) (pa_cons (pv 0) (pa_cons (pe_op op_add pe_int (pv 6)) pa_nil))) pe_int) (fun _ _ => rfl))))
      (pss_cons (ps_set (i := 8) sc_lBuilt.nd rfl (.inl rfl) (pe_lst pa_nil))
      (pss_cons (ps_set (i := 9) sc_lBuilt.nd rfl (.inl rfl) (pe_lst pa_nil))
      (pss_cons (ps_for PassesOwn.never rfl (pi_range1 (by rfl) T.b_range (pa_cons (pv 4) pa_nil)) (pg_name (i := 6) sc_lBuilt.nd rfl (.inl rfl)) (pss_cons (ps_set (i := 10) sc_lBuilt.nd rfl (.inl rfl) (pe_def D_lMixed (hr.mono (by omega)) (pa_cons (pv 0) (pa_cons (pe_op op_add pe_int (pv 6)) pa_nil))))
      (pss_cons (ps_expr (pe_bm PySem.F.plainAttrs_list PySem.F.slot_list_append PySem.F.type_list_append mt_append (pv 8) (pa_cons (pe_ix (r := rIxL K) ix_list (pe_lst (pa_cons pe_str (pa_cons pe_str pa_nil))) (pe_op op_mod (pv 10) pe_int) (fun _ _ => rfl)) pa_nil)))
      (pss_one (ps_expr (pe_bm PySem.F.plainAttrs_list PySem.F.slot_list_append PySem.F.type_list_append mt_append (pv 9) (pa_cons (pe_def D_lSpot (hr.mono (by omega)) (pa_cons (pv 7) (pa_cons (pv 9) (pa_cons (pe_op op_fdiv (pv 10) pe_int) pa_nil)))) pa_nil)))))))
      (pss_one (ps_ret (pe_tupF (pa_cons (pv 7) (pa_cons (pv 8) (pa_cons (pe_callTy call_tuple_ofF (by rfl) T.b_tuple (by decide +kernel) (pa_cons (pv 9) pa_nil)) pa_nil))))))))))))))))), ?_⟩
  refine ⟨.ref a, rfl, a, ns, 0, rfl, hL, ?_⟩
  refine ⟨.ref a, rfl, a, ns, 1, rfl, hL, ?_⟩
  generalize cell ns 0 = fi
  generalize cell ns 1 = se
  have r4 := Int.emod_nonneg fi (show (4 : Int) ≠ 0 by decide)
  have r4' := Int.emod_lt_of_pos fi (show (0 : Int) < 4 by decide)
  have r3 := Int.emod_nonneg se (show (3 : Int) ≠ 0 by decide)
  have r3' := Int.emod_lt_of_pos se (show (0 : Int) < 3 by decide)
  have p4 : (0 : Int) < 4 := by decide
  have p3 : (0 : Int) < 3 := by decide
  have p8 : (0 : Int) < 8 := by decide
  have p2 : (0 : Int) < 2 := by decide
  refine ⟨.int fi, rfl, _, _, rfl, rfl, p4, _, _, rfl, rfl, ?_⟩
  refine ⟨.int se, rfl, _, _, rfl, rfl, p3, _, _, rfl, rfl, ?_⟩
  -- long lanes
  let Mid : L2.St → Hp → Prop := fun σ' H' => H' = H ∧ ∃ ma tr : Int, (1 ≤ ma ∧ ma ≤ 8 ∧ 1 ≤ tr ∧ tr ≤ 6 ∧ (ma ≤ 4 ∧ tr ≤ 3 ∨ tr ≤ 2 ∨ ma ≤ 3)) ∧ σ' = [some (.ref a), some (.int fi), some (.int se), some (.int ma), some (.int tr), none, none, none, none, none, none]
  refine ⟨Mid, ?_, fun σ1 H1 m1 => ⟨Mid, ?_, fun σ2 H2 m2 => ⟨fun σ' H' => Same H H' ∧ ∃ ma tr : Int, ∃ r : Addr, ∃ rm : List Int, (1 ≤ ma ∧ ma ≤ 8 ∧ 1 ≤ tr ∧ tr ≤ 6 ∧ (ma ≤ 4 ∧ tr ≤ 3 ∨ tr ≤ 2 ∨ ma ≤ 3)) ∧ H' r = some (.lst (rm.map V.int)) ∧ rm.length = 8 ∧ (∀ x ∈ rm, 0 ≤ x ∧ x ≤ 4) ∧
    σ' = [some (.ref a), some (.int fi), some (.int se), some (.int ma), some (.int tr), some (.ref r), none, none, none, none, none], ?_, fun σ3 H3 m3 => ?_⟩⟩⟩
  · refine ⟨.int fi, rfl, _, _, rfl, rfl, ⟨by decide, by decide⟩, _, _, rfl, rfl, p8, rfl, _, rfl, ite2 (fun _ => ?_) (fun _ => ?_)⟩
    · have a1 := Int.emod_nonneg (fi / 32) (show (4 : Int) ≠ 0 by decide)
      have a2 := Int.emod_lt_of_pos (fi / 32) (show (0 : Int) < 4 by decide)
      have b1 := Int.emod_nonneg se (show (2 : Int) ≠ 0 by decide)
      have b2 := Int.emod_lt_of_pos se (show (0 : Int) < 2 by decide)
      refine ⟨.int fi, rfl, _, _, rfl, rfl, ⟨by decide, by decide⟩, _, _, rfl, rfl, p4, _, _, rfl, rfl, .int se, rfl, _, _, rfl, rfl, p2, _, _, rfl, rfl, ?_⟩
      exact ⟨rfl, _, _, ⟨by omega, by omega, by omega, by omega, by omega⟩, rfl⟩
    · exact ⟨rfl, _, _, ⟨by omega, by omega, by omega, by omega, by omega⟩, rfl⟩
  · obtain ⟨rfl, ma, tr, hb, rfl⟩ := m1
    refine ⟨.int fi, rfl, _, _, rfl, rfl, ⟨by decide, by decide⟩, _, _, rfl, rfl, p8, rfl, _, rfl, ite2 (fun _ => ?_) (fun _ => ?_)⟩
    · have a1 := Int.emod_nonneg (fi / 32) (show (3 : Int) ≠ 0 by decide)
      have a2 := Int.emod_lt_of_pos (fi / 32) (show (0 : Int) < 3 by decide)
      refine ⟨.int fi, rfl, _, _, rfl, rfl, ⟨by decide, by decide⟩, _, _, rfl, rfl, p3, _, _, rfl, rfl, .int se, rfl, _, _, rfl, rfl, p3, _, _, rfl, rfl, ?_⟩
      exact ⟨rfl, _, _, ⟨by omega, by omega, by omega, by omega, by omega⟩, rfl⟩
    · exact ⟨rfl, _, _, hb, rfl⟩
  · obtain ⟨rfl, ma, tr, hb, rfl⟩ := m2
    refine ⟨size8, fun r1 h1 => ⟨size8, fun r2 h2 => ⟨two_size, fun r3 h3 => ?_⟩⟩⟩
    refine ⟨.int se, rfl, _, _, rfl, rfl, ⟨by decide, by decide⟩, _, _, rfl, rfl, p3, _, _, rfl, rfl, .inr ⟨_, rfl, ?_⟩⟩
    have s1 := same_new (o := .lst [.int 0, .int 1, .int 0, .int 2, .int 1, .int 0, .int 3, .int 4]) h1
    have s2 := same_new (o := .lst [.int 0, .int 0, .int 0, .int 0, .int 1, .int 0, .int 0, .int 0]) h2
    have s3 := same_new (o := .lst [.ref r1, .ref r2]) h3
    by_cases hd : (0 : Int) < se / 3 % 3
    · rw [decide_eq_true hd]
      exact ⟨r3, _, 1, .ref r2, rfl, rfl, .inl (.inl upd_same), at1, (s1.trans s2).trans s3, ma, tr, r2, [0, 0, 0, 0, 1, 0, 0, 0], hb, s3 _ _ upd_same, rfl, by decide, rfl⟩
    · rw [decide_eq_false hd]
      exact ⟨r3, _, 0, .ref r1, rfl, rfl, .inl (.inl upd_same), at0, (s1.trans s2).trans s3, ma, tr, r1, [0, 1, 0, 2, 1, 0, 3, 4], hb, s3 _ _ (s2 _ _ upd_same), rfl, by decide, rfl⟩
  -- the lane
  obtain ⟨s3, ma, tr, r, rm, ⟨hb1, hb2, hb3, hb4, hb5⟩, er, lr, hrm, rfl⟩ := m3
  refine ⟨.int ma, rfl, ma, rfl, by omega, by omega, fun D hD => ?_⟩
  have hD0 : H D = none := s3.free hD
  refine lc_map (walk_range (lo := 0) (n := ma.toNat)) (fun i y _ => ∃ n : Int, y = .int n ∧ 0 ≤ n ∧ n ≤ 4) (fun _ _ _ _ _ e => e) (Nat.lt_of_le_of_lt (by omega : _ ≤ 8) (by decide)) hD (fun _ _ => trivial)
    (fun i x H4 H5 k hi s4 y hk => ?_) (fun H4 ys s4 e4 l4 el => ?_)
  · obtain ⟨rfl, rfl⟩ := y
    refine ⟨rfl, .ref r, rfl, .ref a, rfl, .int (0 + (i : Int)), rfl, _, _, rfl, rfl, ?_⟩
    refine ⟨a, ns, 2 + i, arg2 (by omega), (s3.trans s4).seq hL, by omega, fun m => ⟨_, _, rfl, rfl, p8, ?_⟩⟩
    have m0 := Int.emod_nonneg m (show (8 : Int) ≠ 0 by decide)
    have m1 := Int.emod_lt_of_pos m (show (0 : Int) < 8 by decide)
    obtain ⟨j, hj⟩ : ∃ j : Nat, m % 8 = j := ⟨_, (Int.toNat_of_nonneg m0).symm⟩
    have hjl : j < rm.length := by omega
    refine ⟨r, _, _, _, rfl, rfl, .inl (.inl (s4 _ _ er)), (by rw [hj]; exact lane_at hjl), hk _ _ (Same.refl _) ⟨_, rfl, ?_⟩⟩
    have e := getD_lt (d := 0) hjl
    exact hrm _ (mem_of_some e)
  obtain ⟨ln, rfl, hln⟩ : ∃ ln : List Int, ys = ln.map V.int ∧ ∀ x ∈ ln, 0 ≤ x ∧ x ≤ 4 := by
    refine ⟨ys.map fun v => match v with | .int n => n | _ => 0, ?_, ?_⟩
    · rw [List.map_map]
      refine List.ext_getElem? fun i => ?_
      rw [List.getElem?_map]
      cases hy : ys[i]? with
      | none => rfl
      | some y =>
        obtain ⟨n, rfl, _⟩ := el i y hy
        rfl
    · intro x hx
      obtain ⟨y, hy, rfl⟩ := List.mem_map.mp hx
      obtain ⟨i, hi, rfl⟩ := List.getElem_of_mem hy
      obtain ⟨n, hn, h0, h4⟩ := el i _ (List.getElem?_eq_getElem hi)
      rw [hn]
      exact ⟨h0, h4⟩
  have lln : ln.length = ma.toNat := by rw [← l4, List.length_map]
  have okl : OkLane ln := ⟨by omega, by omega, hln⟩
  -- ways, stand
  refine ⟨Nat.zero_le _, fun Wy hWy => ⟨Nat.zero_le _, fun St hSt => ?_⟩⟩
  have s24 := s3.trans s4
  have nWD : Wy ≠ D := fun e => by rw [e] at hWy; rw [e4] at hWy; cases hWy
  have eD5 : (upd (upd H4 Wy (.lst [])) St (.lst [])) D = some (.lst (ln.map V.int)) := same_new hSt _ _ (same_new hWy _ _ e4)
  have eW5 : (upd (upd H4 Wy (.lst [])) St (.lst [])) Wy = some (.lst []) := same_new hSt _ _ upd_same
  have nSD : St ≠ D := fun e => by have z := same_new (o := .lst []) hWy _ _ e4; rw [← e, hSt] at z; cases z
  have nSW : St ≠ Wy := fun e => by rw [e, upd_same] at hSt; cases hSt
  have s5 := (s24.trans (same_new (o := .lst []) hWy)).trans (same_new (o := .lst []) hSt)
  have hW0 : H Wy = none := s24.free hWy
  have hS0 : H St = none := (s24.trans (same_new (o := .lst []) hWy)).free hSt
  refine ⟨.int tr, rfl, tr, rfl, by omega, by omega, ?_⟩
  refine for_it (walk_range (lo := 0) (n := tr.toNat)) (fun i σ H6 => Same H H6 ∧ H6 D = some (.lst (ln.map V.int)) ∧ (∃ wy S xs, H6 Wy = some (.lst (wy.map fun b => V.str (wS b))) ∧ wy.length = i ∧ H6 St = some (.lst xs) ∧ ImAll H6 xs (S.map dS) ∧ S.length = i ∧ (∀ s ∈ S, okSpot ln s) ∧ (∀ s ∈ S, (S.count s : Int) ≤ mostAt ln s)) ∧
      ∃ y6 y10, σ = [some (.ref a), some (.int fi), some (.int se), some (.int ma), some (.int tr), some (.ref r), y6, some (.ref D), some (.ref Wy), some (.ref St), y10])
    ⟨s5, eD5, ⟨[], [], [], eW5, rfl, upd_same, .nil, rfl, by simp, by simp⟩, none, none, rfl⟩ (fun _ _ _ _ _ => trivial) (fun i x σ H6 H7 hi p y => ?_) (fun σ H6 p => ?_)
  · obtain ⟨s6, eD, ⟨wy, S, xs, eW, lw, eS, im, lS, okS, room⟩, y6, y10, rfl⟩ := p
    obtain ⟨rfl, rfl⟩ := y
    refine ⟨.ref a, rfl, .int (0 + (i : Int)), rfl, _, _, rfl, rfl, ?_⟩
    refine ⟨a, ns, 10 + i, arg2 (by omega), s6.seq hL, by omega, fun m => ?_⟩
    have m0 := Int.emod_nonneg m (show (2 : Int) ≠ 0 by decide)
    have m1 := Int.emod_lt_of_pos m (show (0 : Int) < 2 by decide)
    refine ⟨.ref Wy, rfl, .inl ⟨rfl, _, .inl (.inl eW)⟩, two_size, fun t ht => ⟨.int m, rfl, _, _, rfl, rfl, p2, ?_⟩⟩
    obtain ⟨b, hbw⟩ : ∃ b : Bool, atI [V.str "right", V.str "left"] (m % 2) = some (.str (wS b)) := by
      rcases (show m % 2 = 0 ∨ m % 2 = 1 by omega) with e | e
      · exact ⟨true, by rw [e]; exact at0⟩
      · exact ⟨false, by rw [e]; exact at1⟩
    refine ⟨t, _, _, _, rfl, rfl, .inl (.inl upd_same), hbw, ?_⟩
    have s7 := s6.trans (same_new (o := .lst [.str "right", .str "left"]) ht)
    have eW7 := same_new (o := .lst [.str "right", .str "left"]) ht _ _ eW
    have eD7 := same_new (o := .lst [.str "right", .str "left"]) ht _ _ eD
    have eS7 := same_new (o := .lst [.str "right", .str "left"]) ht _ _ eS
    have im7 := im.mono (Ti.new (o := .lst [.str "right", .str "left"]) ht)
    generalize upd H7 t (.lst [.str "right", .str "left"]) = G7 at s7 eW7 eD7 eS7 im7
    refine ⟨Wy, _, _, rfl, rfl, eW7, by rw [List.length_map, lw]; exact Nat.lt_of_le_of_lt (by omega : _ ≤ 8) (by decide), ?_⟩
    have s8 : Same H (upd G7 Wy (.lst ((wy.map fun b => V.str (wS b)) ++ [.str (wS b)]))) := same_mut s7 hW0
    have eW8 : (upd G7 Wy (.lst ((wy.map fun b => V.str (wS b)) ++ [.str (wS b)]))) Wy = some (.lst ((wy ++ [b]).map fun b => V.str (wS b))) := by rw [upd_same, List.map_append]; rfl
    have eD8 : (upd G7 Wy (.lst ((wy.map fun b => V.str (wS b)) ++ [.str (wS b)]))) D = some (.lst (ln.map V.int)) := by rw [upd_ne (Ne.symm nWD)]; exact eD7
    have eS8 : (upd G7 Wy (.lst ((wy.map fun b => V.str (wS b)) ++ [.str (wS b)]))) St = some (.lst xs) := by rw [upd_ne nSW]; exact eS7
    have im8 := im7.mono (Ti.lst (o := .lst ((wy.map fun b => V.str (wS b)) ++ [.str (wS b)])) eW7)
    generalize upd G7 Wy (.lst ((wy.map fun b => V.str (wS b)) ++ [.str (wS b)])) = G8 at s8 eW8 eD8 eS8 im8
    refine ⟨.ref St, rfl, .inl ⟨rfl, _, .inl (.inl eS8)⟩, .ref D, rfl, .ref St, rfl, .int m, rfl, _, _, rfl, rfl, ⟨by decide, by decide⟩, ?_⟩
    refine ⟨D, St, ln, xs, S, _, rfl, .inl (.inl eD8), okl, eS8, im8, fun G9 p sp s9 hp oksp hsp => ?_⟩
    refine ⟨St, xs, .ref p, rfl, rfl, s9 _ _ eS8, ?_, ?_⟩
    · have := im8.length
      rw [List.length_map] at this
      exact Nat.lt_of_le_of_lt (by omega : _ ≤ 8) (by decide)
    · refine ⟨same_mut (s8.trans s9) hS0, by rw [upd_ne (Ne.symm nSD)]; exact s9 _ _ eD8, ⟨wy ++ [b], S ++ [sp], xs ++ [.ref p], by rw [upd_ne (Ne.symm nSW)]; exact s9 _ _ eW8, by simp [lw], upd_same, ?_, by simp [lS], ?_, room_append (by omega) room hsp⟩, _, _, rfl⟩
      · rw [List.map_append]
        have tl := Ti.lst (o := .lst (xs ++ [.ref p])) (s9 _ _ eS8)
        exact ImAll.append (im8.mono ((Ti.of s9).trans tl)) (.cons (SpotAt.im (tl _ _ hp)) .nil)
      · intro s hm
        rcases List.mem_append.mp hm with hm | hm
        · exact okS s hm
        · rw [List.mem_singleton.mp hm]; exact oksp
  · obtain ⟨s6, eD, ⟨wy, S, xs, eW, lw, eS, im, lS, okS, room⟩, y6, y10, rfl⟩ := p
    refine ⟨.ref D, rfl, .ref Wy, rfl, .ref St, rfl, St, xs, rfl, .inl (.inl eS), nT_q fun G7 c1 s7 t7 => ⟨by show 3 ≤ sizeLine; decide, nT_q fun G8 p s8 t8 => ?_⟩⟩
    have s67 := s7.trans s8
    refine q G8 p D Wy c1 ln wy S (s6.trans s67) t8 hD0 hW0 (s67 _ _ eD) (s67 _ _ eW) (Ne.symm nWD) ⟨xs, Ti.of s8 _ _ t7, im.mono (Ti.of s67)⟩ ⟨okl, by omega, by omega, by omega, okS, room⟩ (by unfold Small; omega)
end
end Slx

set_option Elab.async false
set_option linter.all false
set_option maxRecDepth 100000
set_option maxHeartbeats 4000000
namespace Slx
open PySem PySem.Spec PyProof.Rows L2 Sl
theorem lane_ahead {ln : List Int} {r : Bool} {m : Nat} (hm : m < ln.length) : (∃ g : Nat, spotAhead ln r m = .lane g ∧ (m : Int) + (if r = true then 1 else -1) = g ∧ g < ln.length) ∨ (spotAhead ln r m = .out ∧ ¬ (0 ≤ (m : Int) + (if r = true then 1 else -1) ∧ (m : Int) + (if r = true then 1 else -1) < ln.length)) := by
  unfold spotAhead
  cases r with
  | true =>
    simp only [if_true]
    by_cases h : m + 1 < ln.length
    · rw [if_pos h]; exact .inl ⟨m + 1, rfl, by omega, h⟩
    · rw [if_neg h]; exact .inr ⟨rfl, by omega⟩
  | false =>
    cases m with
    | zero => exact .inr ⟨rfl, by simp⟩
    | succ q =>
      have h : q < ln.length := by omega
      refine .inl ⟨q, ?_, by simp; omega, h⟩
      show (if q < ln.length then Spot.lane q else Spot.out) = _
      rw [if_pos h]
theorem out_room {ln : List Int} {wy : List Bool} {S : Stand} (o : OkStand ln wy S) {k : Nat} {x : Spot} (hx : S[k]? = some x) (hn : x ≠ .out) : hasRoom ln S .out = true := by
  have h1 : S.count .out < S.length := by
    rcases Nat.lt_or_ge (S.count .out) S.length with h | h
    · exact h
    · have e : S.count .out = S.length := Nat.le_antisymm List.count_le_length h
      exact absurd (List.count_eq_length.mp e x (mem_of_some hx)).symm hn
  have h2 := o.len
  have h3 := o.most
  refine decide_eq_true ?_
  show (S.count Spot.out : Int) < 6
  omega
theorem lane_room {ln : List Int} {S : Stand} {g : Nat} : hasRoom ln S (.lane g) = decide (Spot.lane g ∉ S) := by
  unfold hasRoom
  by_cases h : Spot.lane g ∈ S
  · have : 0 < S.count (Spot.lane g) := List.count_pos_iff.mpr h
    rw [decide_eq_false (show ¬ ((S.count (Spot.lane g) : Int) < mostAt ln (.lane g)) by show ¬ ((_ : Int) < 1); omega), decide_eq_false (by simpa using h)]
  · rw [decide_eq_true (show (S.count (Spot.lane g) : Int) < mostAt ln (.lane g) by rw [List.count_eq_zero.mpr h]; show (0 : Int) < 1; decide), decide_eq_true h]
/-- a word with the spot it leads to; a move with the stand behind it -/
def dWS (c : Wd × Spot) : PyData := .tuple [.str (dW c.1), dS c.2]
def dSt (S : Stand) : PyData := .tuple (S.map dS)
def dPr (S : Stand) (c : Mv × Spot) : PyData := .tuple [dM c.1, dSt (S.set c.1.2 c.2)]
section
variable {P : Program} {w : World} {K : PySem.W.Frag} {mg : Str → Option Value} {base : Heap}
def spLOn (K : PySem.W.Frag) : Sp := fun vs H Q _ => ∃ a ln r k, vs = [.ref a, .str (wS r), .int ((k : Nat) : Int)] ∧ LaneAt K H a ln ∧ k < ln.length ∧ ∀ H' p, Same H H' → SpotAt H' p (spotAhead ln r k) → Q (.ref p) H'
theorem ok_lOn (T : Txt K mg) : DefOk P w K mg base 1 "_law_on" ["_law_lane", "_law_way", "_law_place"] (spLOn K) := by
  refine T.f_lOn.ok sc_lOn (fun vs H Q E h => by obtain ⟨a, ln, r, k, rfl, _⟩ := h; rfl) (fun f cdv A outer s H vs Q E hr h => ?_)
  obtain ⟨a, ln, r, k, rfl, hL, hk, q⟩ := h
  refine ⟨_, (pss_cons (ps_set (i := 3) sc_lOn.nd rfl (.inl rfl) (pe_op op_add (pv 2) (pe_ix (r := rIxL K) ix_list (pe_lst (pa_cons (pe_un un_neg pe_int) (pa_cons pe_int pa_nil))) (pe_callTy call_int1 (by rfl) T.b_int (by decide +kernel) (pa_cons (pe_cmpR op_eq (pv 1) pe_str (nomark _)) pa_nil)) (fun _ _ => rfl))))
      (pss_cons (ps_if (pt_cmpR op_in_rng (pv 3) (pe_callTy cr_rng1 (by rfl) T.b_range (by decide +kernel) (pa_cons (pe_callB call_len_seq (by rfl) T.b_len (by decide +kernel) (pa_cons (pv 0) pa_nil)) pa_nil)) (by rfl)) (pss_one (ps_ret (pe_tupF (pa_cons pe_str (pa_cons (pv 3) pa_nil))))) pss_nil)
      (pss_one (ps_ret (pe_tupF (pa_cons pe_str pa_nil)))))), ?_⟩
  refine ⟨.int k, rfl, _, rfl, two_size, fun t ht => ?_⟩
  have s1 := same_new (o := .lst [.int (-1), .int 1]) ht
  refine ⟨.str (wS r), rfl, rfl, .inr ⟨_, rfl, t, _, _, .int (if r = true then 1 else -1), rfl, rfl, .inl (.inl upd_same), ?_, _, _, rfl, rfl, ?_⟩⟩
  · rw [way_right]
    cases r
    · exact at0
    · exact at1
  refine ⟨_, rfl, .ref a, rfl, a, _, rfl, .inl (s1.seq hL), _, rfl, fun g hg => ?_⟩
  have s2 := s1.trans (same_new (o := .rng 0 ((ln.map V.int).length : Int)) hg)
  refine ⟨_, g, 0, _, rfl, rfl, upd_same, _, rfl, ?_⟩
  rw [List.length_map] at s2 ⊢
  rcases lane_ahead (r := r) hk with ⟨m, e, em, hm⟩ | ⟨e, hn⟩
  · refine iteT' (decide_eq_true ⟨by omega, by omega⟩) ⟨_, rfl, two_size, nT_q fun H3 p s3 tp => q H3 p (s2.trans s3) ?_⟩
    rw [e]
    have tp' : TupAt H3 p [.str "lane", .int ((k : Int) + (if r = true then 1 else -1))] := tp
    rw [em] at tp'
    exact tp'
  · refine iteF' (decide_eq_false hn) ⟨one_size, nT_q fun H3 p s3 tp => q H3 p (s2.trans s3) ?_⟩
    rw [e]
    exact tp
def spLMoves (K : PySem.W.Frag) : Sp := fun vs H Q _ => ∃ a b c ln wy S, vs = [.ref a, .ref b, .ref c] ∧ LaneAt K H a ln ∧ WaysAt K H b wy ∧ StandAt H c S ∧ OkStand ln wy S ∧
  ∀ H' p xs, Same H H' → H p = none → H' p = some (.lst xs) → ImAll H' xs ((allPairs ln wy S).map (dPr S)) → Q (.ref p) H'
/-- what the k-th train may do, as words and spots -/
def wordsOf (ln : List Int) (wy : List Bool) (S : Stand) (k : Nat) : List (Wd × Spot) := (choices ln wy S k).map fun c => (c.1.1, c.2)
def firstWord (ln : List Int) (S : Stand) (sp : Spot) (r : Bool) : List (Wd × Spot) := match sp with
  | .lane p => if hasRoom ln S (spotAhead ln r p) then [(.go, spotAhead ln r p)] else []
  | .side p => if hasRoom ln S (spotAhead ln r p) then [(.on, spotAhead ln r p)] else []
  | .out => []
def nextWord (ln : List Int) (S : Stand) (sp : Spot) : List (Wd × Spot) := match sp with
  | .lane p => if hasRoom ln S (.side p) then [(.aside, .side p)] else []
  | _ => []
theorem words_split {ln : List Int} {wy : List Bool} {S : Stand} {k : Nat} {sp : Spot} {r : Bool} (h : S.getD k .out = sp) (hr : wy.getD k true = r) : wordsOf ln wy S k = firstWord ln S sp r ++ nextWord ln S sp := by
  unfold wordsOf choices firstWord nextWord
  rw [h]
  cases sp with
  | out => rfl
  | lane p =>
    simp only [hr]
    by_cases h1 : hasRoom ln S (spotAhead ln r p) = true <;> by_cases h2 : hasRoom ln S (.side p) = true <;> simp [h1, h2]
  | side p =>
    simp only [hr]
    by_cases h1 : hasRoom ln S (spotAhead ln r p) = true <;> simp [h1]
theorem words_mem {ln : List Int} {wy : List Bool} {S : Stand} {k j : Nat} {wd : Wd} {sp : Spot} (h : (wordsOf ln wy S k)[j]? = some (wd, sp)) : (choices ln wy S k)[j]? = some ((wd, k), sp) := by
  unfold wordsOf at h
  rw [List.getElem?_map] at h
  cases e : (choices ln wy S k)[j]? with
  | none => rw [e] at h; cases h
  | some c =>
    rw [e] at h
    obtain ⟨⟨w', k'⟩, s'⟩ := c
    obtain ⟨hk, _⟩ := mem_choices (mem_of_some e)
    have h' : (w', s') = (wd, sp) := Option.some.inj h
    cases h'
    have hk' : k' = k := hk
    subst hk'
    rfl
theorem words_len (ln : List Int) (wy : List Bool) (S : Stand) (k : Nat) : (wordsOf ln wy S k).length = (choices ln wy S k).length := List.length_map ..
theorem take_snoc {α : Type} {l : List α} {j : Nat} {x : α} (h : l[j]? = some x) : l.take (j + 1) = l.take j ++ [x] := by rw [List.take_add_one, h]; rfl
theorem ok_lMoves (T : Txt K mg) : DefOk P w K mg base 2 "_law_moves" ["_law_lane", "_law_ways", "_law_stand"] (spLMoves K) := by
  have D_lOn : DefOk P w K mg base 1 "_law_on" ["_law_lane", "_law_way", "_law_place"] (spLOn K) := ok_lOn T
  refine T.f_lMoves.ok sc_lMoves (fun vs H Q E h => by obtain ⟨a, b, c, ln, wy, S, rfl, _⟩ := h; rfl) (fun f cdv A outer s H vs Q E hr h => ?_)
  obtain ⟨a, b, c, ln, wy, S, rfl, hL, hW, ⟨xs, ec, im⟩, ok, q⟩ := h
  have zl := StandAt.len im
  have z6 := stand_size ok im
  refine ⟨_, (pss_cons (ps_set (i := 3) sc_lMoves.nd rfl (.inl rfl) (pe_lst pa_nil))
      (pss_cons (ps_for PassesOwn.never rfl (pi_range1 (by rfl) T.b_range (pa_cons (pe_callB call_len_seq (by rfl) T.b_len (by decide +kernel) (pa_cons (pv 2) pa_nil)) pa_nil)) (pg_name (i := 4) sc_lMoves.nd rfl (.inl rfl)) (pss_cons (ps_if (pt_cmpR op_eq (pe_ix (r := rIxT K) ix_tup (pe_ix (r := rIxT K) ix_tup (pv 2) (pv 4) (fun _ _ => rfl)) pe_int (fun _ _ => rfl)) pe_str (nomark _)) (pss_one ps_continue) pss_nil)
      (pss_cons (ps_set (i := 5) sc_lMoves.nd rfl (.inl rfl) (pe_def D_lOn (hr.mono (by omega)) (pa_cons (pv 0) (pa_cons (pe_ix (r := rIxL K) ix_list (pv 1) (pv 4) (fun _ _ => rfl)) (pa_cons (pe_ix (r := rIxT K) ix_tup (pe_ix (r := rIxT K) ix_tup (pv 2) (pv 4) (fun _ _ => rfl)) pe_int (fun _ _ => rfl)) pa_nil)))))
      (pss_cons (ps_set (i := 6) sc_lMoves.nd rfl (.inl rfl) (pe_lst pa_nil))
      (C8.pss_cut (ps_if (PW.pt (pw_or (pt_cmpR (r := rNotInT K) (op_notInT (hu65 hr)) (pv 5) (pv 2) (by rfl)) (pw_or1 (pt_cmpR op_eq (pe_ix (r := rIxT K) ix_tup (pv 5) pe_int (fun _ _ => rfl)) pe_str (nomark _))))) (pss_one (ps_expr (pe_bm PySem.F.plainAttrs_list PySem.F.slot_list_append PySem.F.type_list_append mt_append (pv 6) (pa_cons (pe_tupF (pa_cons (pe_dget (hu_of hr) (pe_disp (pps_cons pe_str pe_str (pps_cons pe_str pe_str pps_nil)) (by rfl) (by rfl) (fun z => by cases z) (by decide)) (pe_ix (r := rIxT K) ix_tup (pe_ix (r := rIxT K) ix_tup (pv 2) (pv 4) (fun _ _ => rfl)) pe_int (fun _ _ => rfl)) (fun _ _ => rfl)) (pa_cons (pv 5) pa_nil))) pa_nil)))) pss_nil)
      (pss_cons (ps_set (i := 7) sc_lMoves.nd rfl (.inr rfl) (pe_tupF (pa_cons pe_str (pa_cons (pe_ix (r := rIxT K) ix_tup (pe_ix (r := rIxT K) ix_tup (pv 2) (pv 4) (fun _ _ => rfl)) pe_int (fun _ _ => rfl)) pa_nil))))
      (C8.pss_cut (ps_if (PW.pt (pw_and (pt_cmpR op_eq (pe_ix (r := rIxT K) ix_tup (pe_ix (r := rIxT K) ix_tup (pv 2) (pv 4) (fun _ _ => rfl)) pe_int (fun _ _ => rfl)) pe_str (nomark _)) (pw_and1 (pt_cmpR op_lt (pe_callB call_len_seq (by rfl) T.b_len (by decide +kernel) (pa_cons (pe_lc (g := gName 8) (own := [("_law_one", 8)]) rfl sc_lMoves.nd (pi_tupK (K := K) (pv 2)) (blkOk_by (own := [("_law_one", 8)]) (N := ["_law_lane", "_law_ways", "_law_stand", "_law_found", "_law_k", "_law_spot_here", "_law_some", "_law_here", "_law_one", "_law_word", "_law_goal"]) (sc := defScope s_lMoves) (by decide +kernel)) (fun _ _ _ _ _ => (pg_name (i := 8) sc_lMoves.nd rfl (.inl rfl))) (fun _ _ _ _ _ => (pts_one (pt_cmpR (r := rEqD K) (op_eqD (hu64 hr)) (pv 8) (pv 7) (nomark _)))) (fun _ _ _ _ _ => (pv 8))) pa_nil)) (pe_ix (r := rIxL K) ix_list (pv 0) (pe_ix (r := rIxT K) ix_tup (pv 7) pe_int (fun _ _ => rfl)) (fun _ _ => rfl)) (nomark _))))) (pss_one (ps_expr (pe_bm PySem.F.plainAttrs_list PySem.F.slot_list_append PySem.F.type_list_append mt_append (pv 6) (pa_cons (pe_tupF (pa_cons pe_str (pa_cons (pv 7) pa_nil))) pa_nil)))) pss_nil)
      (pss_one (ps_for PassesOwn.never rfl (pi_listK (K := K) (pv 6)) (pg_tup rfl (pgs_cons (pg_name (i := 9) sc_lMoves.nd rfl (.inl rfl)) (pgs_cons (pg_name (i := 10) sc_lMoves.nd rfl (.inl rfl)) pgs_nil))) (pss_one (ps_expr (pe_bm PySem.F.plainAttrs_list PySem.F.slot_list_append PySem.F.type_list_append mt_append (pv 3) (pa_cons (pe_tupF (pa_cons (pe_tupF (pa_cons (pv 9) (pa_cons (pv 4) pa_nil))) (pa_cons (pe_op (r := rCatF K) op_catF (pe_op (r := rCatF K) op_catF (pe_slice (r := rSlF K) sl_tupF (pv 2) po_none (po_some (pv 4))) (pe_tupF (pa_cons (pv 10) pa_nil))) (pe_slice (r := rSlF K) sl_tupF (pv 2) (po_some (pe_op op_add (pv 4) pe_int)) po_none)) pa_nil))) pa_nil)))))))))))))
      (pss_one (ps_ret (pv 3))))), ?_⟩
  refine ⟨Nat.zero_le _, fun F hF => ?_⟩
  have sF := same_new (o := .lst []) hF
  refine ⟨.ref c, rfl, c, xs, rfl, .inr (Ti.of sF _ _ ec).sq, _, rfl, by omega, by omega, ?_⟩
  refine for_it (walk_range (lo := 0) (n := (xs.length : Int).toNat)) (fun i σ H1 => Same H H1 ∧ (∃ acc, H1 F = some (.lst acc) ∧ ImAll H1 acc (((List.range i).flatMap fun k => choices ln wy S k).map (dPr S))) ∧ ∃ y4 y5 y6 y7 y9 y10, σ = [some (.ref a), some (.ref b), some (.ref c), some (.ref F), y4, y5, y6, y7, none, y9, y10])
    ⟨sF, ⟨[], upd_same, .nil⟩, none, none, none, none, none, none, rfl⟩ (fun _ _ _ _ _ => trivial) (fun i x σ H1 H2 hi p y => ?_) (fun σ H1 p => ?_)
  · obtain ⟨s1, ⟨acc, ea, ia⟩, y4, y5, y6, y7, y9, y10, rfl⟩ := p
    obtain ⟨rfl, rfl⟩ := y
    have hi2 : i < S.length := by omega
    have es : S[i]? = some (S.getD i .out) := getD_lt hi2
    have ew : wy[i]? = some (wy.getD i true) := getD_lt (by rw [← ok.len]; exact hi2)
    have ewV : (wy.map fun b => V.str (wS b))[i]? = some (.str (wS (wy.getD i true))) := by rw [List.getElem?_map, ew]; rfl
    obtain ⟨p, ep, hp⟩ := stand_get im es
    have e0 : (0 : Int) + (i : Int) = (i : Int) := by omega
    have at_ : ∀ {v : V}, xs[i]? = some v → atI xs (0 + (i : Int)) = some v := fun h => by rw [e0]; exact atI_nat h
    have atw : ∀ {v : V}, (wy.map fun b => V.str (wS b))[i]? = some v → atI (wy.map fun b => V.str (wS b)) (0 + (i : Int)) = some v := fun h => by rw [e0]; exact atI_nat h
    have okp := ok.spot _ (mem_of_some es)
    generalize hsp : S.getD i .out = sp at es hp okp
    generalize hwr : wy.getD i true = r at ew ewV
    have flat : (List.range (i + 1)).flatMap (fun k => choices ln wy S k) = (List.range i).flatMap (fun k => choices ln wy S k) ++ choices ln wy S i := by
      rw [List.range_succ, List.flatMap_append]; simp
    by_cases hout : sp = .out
    · subst hout
      refine ⟨.ref c, rfl, .int (0 + (i : Int)), rfl, c, xs, _, _, rfl, rfl, (Ti.of s1 _ _ ec).sq, at_ ep, p, _, 0, _, rfl, rfl, (Ti.of s1 _ _ hp).sq, at0, rfl, _, rfl, iteT' (decide_eq_true rfl) ?_⟩
      refine ⟨s1, ⟨acc, ea, ?_⟩, _, _, _, _, _, _, rfl⟩
      rw [flat, show choices ln wy S i = [] by unfold choices; rw [hsp], List.append_nil]
      exact ia
    obtain ⟨wd0, m, evs, hfst⟩ : ∃ (wd0 : Str) (m : Nat), vS sp = [.str wd0, .int m] ∧ (sp = .lane m ∧ wd0 = "lane" ∨ sp = .side m ∧ wd0 = "side") := by
      cases sp with
      | out => exact absurd rfl hout
      | lane m => exact ⟨_, m, rfl, .inl ⟨rfl, rfl⟩⟩
      | side m => exact ⟨_, m, rfl, .inr ⟨rfl, rfl⟩⟩
    have okm : m < ln.length := by rcases hfst with ⟨e, _⟩ | ⟨e, _⟩ <;> rw [e] at okp <;> exact okp
    have hpv : ∀ {G : Hp}, Same H G → TupAt G p [.str wd0, .int m] := fun g => by have z := Ti.of g _ _ hp; rw [evs] at z; exact z
    have wne : decide (V.str wd0 = .str "out") = false := by rcases hfst with ⟨_, e⟩ | ⟨_, e⟩ <;> rw [e] <;> decide
    refine ⟨.ref c, rfl, .int (0 + (i : Int)), rfl, c, xs, _, _, rfl, rfl, (Ti.of s1 _ _ ec).sq, at_ ep, p, _, 0, _, rfl, rfl, (hpv s1).sq, at0, ?_, ?_⟩
    · rfl
    refine ⟨_, rfl, iteF' wne ?_⟩
    refine ⟨.ref a, rfl, .ref b, rfl, .int (0 + (i : Int)), rfl, b, _, _, _, rfl, rfl, s1.seq hW, atw ewV, .ref c, rfl, .int (0 + (i : Int)), rfl, c, xs, _, _, rfl, rfl, (Ti.of s1 _ _ ec).sq, at_ ep, p, _, 1, _, rfl, rfl, (hpv s1).sq, at1, ?_⟩
    refine ⟨a, ln, r, m, rfl, s1.seq hL, okm, fun H3 g3 s3 hg3 => ⟨Nat.zero_le _, fun So hSo => ?_⟩⟩
    have s13 := s1.trans s3
    have s4 := s13.trans (same_new (o := .lst []) hSo)
    have nFS : F ≠ So := ne_of_none (s3 _ _ ea) hSo
    have ea4 := same_new (o := .lst []) hSo _ _ (s3 _ _ ea)
    have ia4 := ia.mono ((Ti.of s3).trans (Ti.new (o := .lst []) hSo))
    have hg4 := Ti.new (o := .lst []) hSo _ _ hg3
    have eS4 : (upd H3 So (.lst [])) So = some (.lst []) := upd_same
    have hS0 : H So = none := s13.free hSo
    have hF0 := hF
    generalize upd H3 So (.lst []) = H4 at s4 ea4 ia4 hg4 eS4
    -- what the words so far are
    let Mid : List (Wd × Spot) → Option V → L2.St → Hp → Prop := fun L y7 σ' H' => Same H H' ∧ (H' F = some (.lst acc) ∧ ImAll H' acc (((List.range i).flatMap fun k => choices ln wy S k).map (dPr S))) ∧ (∃ ys, H' So = some (.lst ys) ∧ ImAll H' ys (L.map dWS)) ∧
      σ' = [some (.ref a), some (.ref b), some (.ref c), some (.ref F), some (.int (0 + (i : Int))), some (.ref g3), some (.ref So), y7, none, y9, y10]
    refine ⟨Mid (firstWord ln S sp r) y7, ?_, fun σ5 H5 m5 => ?_⟩
    · have fw : firstWord ln S sp r = if hasRoom ln S (spotAhead ln r m) then [(if wd0 = "lane" then Wd.go else Wd.on, spotAhead ln r m)] else [] := by
        rcases hfst with ⟨e, e'⟩ | ⟨e, e'⟩ <;> rw [e, e'] <;> rfl
      have app : ∀ G : Hp, Same H4 G → hasRoom ln S (spotAhead ln r m) = true → ∀ Dx : Ends, Dx.nx = Mid (firstWord ln S sp r) y7 → tDrop (tBM K "list" rAppend (tVar 6) (tCons (tTupF (tCons (tDGet (tDisp [(tC (.str "lane"), tC (.str "go")), (tC (.str "side"), tC (.str "on"))]) (tOp (rIxT K) (tOp (rIxT K) (tVar 2) (tVar 4)) (tC (.int 0)))) (tCons (tVar 5) tNil))) tNil)) Dx
          [some (.ref a), some (.ref b), some (.ref c), some (.ref F), some (.int (0 + (i : Int))), some (.ref g3), some (.ref So), y7, none, y9, y10] G := fun G sG hroom Dx eD => by
        refine ⟨.ref So, rfl, .inl ⟨rfl, _, .inl (.inl (sG _ _ eS4))⟩, fun d hd => ⟨upd_same, [(.inr "lane", .str "go"), (.inr "side", .str "on")], rfl, by show 2 ≤ 15; decide, ?_⟩⟩
        have sd := same_new (o := .dK (mergeK [] [((.inr "lane" : Key), V.str "go"), (.inr "side", .str "on")])) hd
        rw [upd_upd]
        refine ⟨.ref c, rfl, .int (0 + (i : Int)), rfl, c, xs, _, _, rfl, rfl, (Ti.of ((s4.trans sG).trans sd) _ _ ec).sq, at_ ep, p, _, 0, _, rfl, rfl, (hpv ((s4.trans sG).trans sd)).sq, at0, d, .str (dW (if wd0 = "lane" then Wd.go else Wd.on)), rfl, ?_, ?_⟩
        · have z := DGet.k (H := upd G d (.dK (mergeK [] [((.inr "lane" : Key), V.str "go"), (.inr "side", .str "on")]))) (a := d) (k := .inr wd0) upd_same
          have e : valV (mergeK [] [((.inr "lane" : Key), V.str "go"), (.inr "side", .str "on")]) (.inr wd0) = some (.str (dW (if wd0 = "lane" then Wd.go else Wd.on))) := by
            rcases hfst with ⟨_, e⟩ | ⟨_, e⟩ <;> rw [e] <;> decide
          rw [e] at z
          exact z
        refine ⟨.ref g3, rfl, two_size, fun t o ht ho => ?_⟩
        have st := same_new (o := .frz o (.tup [.str (dW (if wd0 = "lane" then Wd.go else Wd.on)), .ref g3])) ht
        have sGt := (sG.trans sd).trans st
        refine ⟨So, [], _, rfl, rfl, sGt _ _ eS4, by decide, ?_⟩
        have tl := Ti.lst (o := .lst ([] ++ [.ref t])) (sGt _ _ eS4)
        rw [eD]
        refine ⟨same_mut (s4.trans sGt) hS0, ⟨by rw [upd_ne nFS]; exact sGt _ _ ea4, ia4.mono ((Ti.of sGt).trans tl)⟩, ⟨_, upd_same, ?_⟩, rfl⟩
        rw [fw, if_pos hroom]
        exact .cons (.tup (tl _ _ (TupAt.new ho)) (.cons (.str _) (.cons (Im.mono ((Ti.of sGt).trans tl) (SpotAt.im hg4)) .nil))) .nil
      refine ⟨.ref g3, rfl, .ref c, rfl, dS (spotAhead ln r m), S.map dS, ⟨(SpotAt.im hg4).dp, (Im.tup (Ti.of s4 _ _ ec) (im.mono (Ti.of s4))).dp⟩, ⟨shaped_spot _, shaped_stand S⟩, _, rfl, ?_⟩
      rw [any_spot]
      rcases lane_ahead (r := r) okm with ⟨gg, eg, _, _⟩ | ⟨eo, _⟩
      · rw [eg] at hg4 fw app ⊢
        by_cases hin : Spot.lane gg ∈ S
        · rw [decide_eq_true hin]
          refine iteF ⟨.ref g3, rfl, g3, _, 0, _, rfl, rfl, hg4.sq, at0, rfl, _, rfl, iteF' (decide_eq_false (by decide)) ?_⟩
          refine ⟨s4, ⟨ea4, ia4⟩, ⟨[], eS4, ?_⟩, rfl⟩
          rw [fw, lane_room, if_neg (by simpa using hin)]
          exact .nil
        · rw [decide_eq_false hin]
          exact iteT (iteT (app H4 (Same.refl _) (by rw [lane_room]; exact decide_eq_true hin) _ rfl))
      · rw [eo] at hg4 fw app ⊢
        have hr : hasRoom ln S .out = true := out_room ok es hout
        by_cases hin : Spot.out ∈ S
        · rw [decide_eq_true hin]
          exact iteF ⟨.ref g3, rfl, g3, _, 0, _, rfl, rfl, hg4.sq, at0, rfl, _, rfl, iteT' (decide_eq_true rfl) (app H4 (Same.refl _) hr _ rfl)⟩
        · rw [decide_eq_false hin]
          exact iteT (iteT (app H4 (Same.refl _) hr _ rfl))
    obtain ⟨s5, ⟨ea5, ia5⟩, ⟨ys, eS5, iy5⟩, rfl⟩ := m5
    refine ⟨.ref c, rfl, .int (0 + (i : Int)), rfl, c, xs, _, _, rfl, rfl, (Ti.of s5 _ _ ec).sq, at_ ep, p, _, 1, _, rfl, rfl, (hpv s5).sq, at1, two_size, nT_q fun H6 h6 s6 t6 => ?_⟩
    have s56 := s5.trans s6
    refine ⟨Mid (wordsOf ln wy S i) (some (.ref h6)), ?_, fun σ7 H7 m7 => ?_⟩
    · rw [words_split hsp hwr]
      rcases hfst with ⟨e, e'⟩ | ⟨e, e'⟩
      · subst e'
        refine ⟨.ref c, rfl, .int (0 + (i : Int)), rfl, c, xs, _, _, rfl, rfl, (Ti.of s56 _ _ ec).sq, at_ ep, p, _, 0, _, rfl, rfl, (hpv s56).sq, at0, rfl, _, rfl, iteT' (decide_eq_true rfl) ?_⟩
        refine ⟨.ref c, rfl, c, rfl, ⟨xs, (Ti.of s56 _ _ ec).sq⟩, fun D hD => ?_⟩
        refine lc_it (walk_tup (K := K) (a := c) (xs := xs)) (fun j G => Same H6 G ∧ ∃ ac2, G D = some (.lst ac2) ∧ ac2.length = (S.take j).count (.side m)) ⟨same_new hD, [], upd_same, by simp⟩ (fun j G _ p => (Ti.of (s56.trans p.1) _ _ ec).sq) (fun j x G G' hj p y => ?_) (fun G p => ?_)
        · obtain ⟨rfl, ex⟩ := y
          obtain ⟨sG, ac2, eG, lG⟩ := p
          obtain ⟨pj, sj, rfl, esj, hsj⟩ := stand_getV im ex
          have sG6 := s56.trans sG
          refine ⟨rfl, .ref pj, rfl, .ref h6, rfl, dS sj, dS (.side m), (SpotAt.im (Ti.of sG6 _ _ hsj)).dp, (SpotAt.im (s := .side m) (Ti.of sG _ _ t6)).dp, shaped_spot _, shaped_spot _, _, rfl, ?_⟩
          rw [eqv_spot, take_snoc esj, List.count_append]
          by_cases hq : sj = .side m
          · rw [decide_eq_true hq]
            refine iteT ⟨.ref pj, rfl, ac2, eG, ?_, same_mut sG hD, _, upd_same, ?_⟩
            · have := List.count_le_length (a := Spot.side m) (l := S.take j)
              have h2 : (S.take j).length ≤ S.length := (by rw [List.length_take]; omega)
              exact Nat.lt_of_le_of_lt (by omega : _ ≤ 8) (by decide)
            · rw [List.length_append, lG, hq]; simp
          · rw [decide_eq_false hq]
            refine iteF ⟨sG, ac2, eG, ?_⟩
            rw [lG]
            have : (sj == Spot.side m) = false := beq_eq_false_iff_ne.mpr hq
            simp [List.count_cons, this]
        · obtain ⟨sG, ac2, eG, lG⟩ := p
          have lG' : ac2.length = S.count (.side m) := by rw [lG, zl, List.take_length]
          have sG6 := s56.trans sG
          refine ⟨D, ac2, rfl, .inl (.inl (.inl eG)), .ref a, rfl, .ref h6, rfl, h6, _, 1, _, rfl, rfl, (Ti.of sG _ _ t6).sq, at1, a, _, (m : Int), _, rfl, rfl, sG6.seq hL, lane_at okm, _, _, rfl, rfl, _, rfl, ?_⟩
          rw [lG']
          have nw : nextWord ln S sp = if hasRoom ln S (.side m) then [(.aside, .side m)] else [] := by rw [e]; rfl
          have s5G := s6.trans sG
          refine ite2 (fun hc => ?_) (fun hc => ?_)
          · have hroom : hasRoom ln S (.side m) = true := hc
            refine ⟨.ref So, rfl, .inl ⟨rfl, _, .inl (.inl (s5G _ _ eS5))⟩, .ref h6, rfl, two_size, fun t o ht ho => ?_⟩
            have st := same_new (o := .frz o (.tup [.str "aside", .ref h6])) ht
            have sGt := s5G.trans st
            refine ⟨So, ys, _, rfl, rfl, sGt _ _ eS5, ?_, ?_⟩
            · have := iy5.length
              rw [List.length_map] at this
              have : (firstWord ln S sp r).length ≤ 1 := by rw [e]; show (if _ then _ else _ : List (Wd × Spot)).length ≤ 1; split <;> simp
              exact Nat.lt_of_le_of_lt (by omega : _ ≤ 8) (by decide)
            have tl := Ti.lst (o := .lst (ys ++ [.ref t])) (sGt _ _ eS5)
            refine ⟨same_mut (s5.trans sGt) hS0, ⟨by rw [upd_ne nFS]; exact sGt _ _ ea5, ia5.mono ((Ti.of sGt).trans tl)⟩, ⟨_, upd_same, ?_⟩, rfl⟩
            rw [nw, if_pos hroom, List.map_append]
            exact (iy5.mono ((Ti.of sGt).trans tl)).append (.cons (.tup (tl _ _ (TupAt.new ho)) (.cons (.str _) (.cons (SpotAt.im (s := .side m) (((Ti.of sG).trans (Ti.of st)).trans tl _ _ t6)) .nil))) .nil)
          · have hroom : ¬ hasRoom ln S (.side m) = true := hc
            refine ⟨s5.trans s5G, ⟨s5G _ _ ea5, ia5.mono (Ti.of s5G)⟩, ⟨ys, s5G _ _ eS5, ?_⟩, rfl⟩
            rw [nw, if_neg hroom, List.append_nil]
            exact iy5.mono (Ti.of s5G)
      · subst e'
        refine ⟨.ref c, rfl, .int (0 + (i : Int)), rfl, c, xs, _, _, rfl, rfl, (Ti.of s56 _ _ ec).sq, at_ ep, p, _, 0, _, rfl, rfl, (hpv s56).sq, at0, rfl, _, rfl, iteF' (decide_eq_false (by decide)) (iteF ?_)⟩
        refine ⟨s56, ⟨s6 _ _ ea5, ia5.mono (Ti.of s6)⟩, ⟨ys, s6 _ _ eS5, ?_⟩, rfl⟩
        rw [show nextWord ln S sp = [] by rw [e]; rfl, List.append_nil]
        exact iy5.mono (Ti.of s6)
    obtain ⟨s7, ⟨ea7, ia7⟩, ⟨zs, eS7, iz7⟩, rfl⟩ := m7
    have lz : zs.length = (choices ln wy S i).length := by rw [iz7.length, List.length_map, words_len]
    refine ⟨.ref So, rfl, So, rfl, ⟨_, .inl (.inl eS7)⟩, ?_⟩
    refine for_it (walk_list (K := K) (a := So) (xs := zs)) (fun j σ G => Same H G ∧ Ti H7 G ∧ G So = some (.lst zs) ∧ (∃ ac2, G F = some (.lst ac2) ∧ ImAll G ac2 ((((List.range i).flatMap fun k => choices ln wy S k) ++ (choices ln wy S i).take j).map (dPr S))) ∧
        ∃ y9 y10, σ = [some (.ref a), some (.ref b), some (.ref c), some (.ref F), some (.int (0 + (i : Int))), some (.ref g3), some (.ref So), some (.ref h6), none, y9, y10])
      ⟨s7, Ti.refl _, eS7, ⟨acc, ea7, by rw [List.take_zero, List.append_nil]; exact ia7⟩, y9, y10, rfl⟩ (fun j σ G _ p => .inl (.inl p.2.2.1)) (fun j x σ G G' hj p y => ?_) (fun σ G p => ?_)
    · obtain ⟨sG, tG, eSG, ⟨ac2, eFG, iG⟩, y9', y10', rfl⟩ := p
      obtain ⟨rfl, ex⟩ := y
      obtain ⟨d, ed, imd⟩ := iz7.getV ex
      rw [List.getElem?_map] at ed
      cases ew2 : (wordsOf ln wy S i)[j]? with
      | none => rw [ew2] at ed; cases ed
      | some wsp =>
        obtain ⟨wd, sp2⟩ := wsp
        rw [ew2] at ed
        cases ed
        have ech := words_mem ew2
        obtain ⟨t, u1, u2, rfl, tt, i1, i2⟩ := im_pair imd
        have e1 := im_str i1
        subst e1
        obtain ⟨pq, rfl, hsq⟩ := im_spot i2
        refine ⟨t, _, rfl, (tG _ _ tt).sq, rfl, _, _, rfl, _, _, rfl, rfl, ?_⟩
        refine ⟨.ref F, rfl, .inl ⟨rfl, _, .inl (.inl eFG)⟩, .str (dW wd), rfl, .int (0 + (i : Int)), rfl, two_size, nT_q fun G1 m1 s1' tm1 => ?_⟩
        rw [e0] at tm1
        refine ⟨.ref c, rfl, .int (0 + (i : Int)), rfl, _, rfl, ?_⟩
        rw [e0]
        refine slF (Ti.of (sG.trans s1') _ _ ec) fun G2 p2 s2' t2' => ?_
        rw [cut_to (by omega)] at t2'
        refine ⟨.ref pq, rfl, one_size, nT_q fun G3 p3 s3' t3' => catF (Ti.of s3' _ _ t2') t3' (by simp [sizeLine_eq]; omega) fun G4 p4 s4' t4' => ?_⟩
        have s24 := (s2'.trans s3').trans s4'
        refine ⟨.ref c, rfl, .int (i : Int), rfl, _, 1, rfl, rfl, _, rfl, ?_⟩
        show rSlF K (.ref c) (some ((i : Int) + 1)) none G4 fun y H2 => rCatF K (.ref p4) y H2 _
        refine slF (Ti.of (sG.trans (s1'.trans s24)) _ _ ec) fun G5 p5 s5' t5' => ?_
        have t5'' : TupAt G5 p5 (xs.drop (i + 1)) := by
          have e2 : cutV xs (some ((i : Int) + 1)) none = xs.drop (i + 1) := by
            have := cut_from (xs := xs) (k := i + 1) (by omega)
            rw [← this]
            congr 2
          rw [← e2]
          exact t5'
        refine catF (Ti.of s5' _ _ t4') t5'' (by simp [sizeLine_eq]; omega) fun G6 p6 s6' t6' => ?_
        rw [set_parts (by omega)] at t6'
        have s16 := (s1'.trans s24).trans (s5'.trans s6')
        refine ⟨two_size, nT_q fun G7 p7 s7' t7' => ?_⟩
        have s17 := s16.trans s7'
        refine ⟨F, ac2, _, rfl, rfl, s17 _ _ eFG, ?_, ?_⟩
        · have h1 := iG.length
          have h2 := flat_len ln wy S i
          have h3 := choices_len ln wy S i
          rw [h1, List.length_map, List.length_append, List.length_take]
          exact Nat.lt_of_le_of_lt (by omega : _ ≤ 1000) (by decide)
        have tl := Ti.lst (o := .lst (ac2 ++ [.ref p7])) (s17 _ _ eFG)
        refine ⟨same_mut (sG.trans s17) hF0, (tG.trans (Ti.of s17)).trans tl, by rw [upd_ne (Ne.symm nFS)]; exact s17 _ _ eSG, ⟨_, upd_same, ?_⟩, _, _, rfl⟩
        rw [take_snoc ech, ← List.append_assoc, List.map_append]
        have s67 := s7'
        refine (iG.mono ((Ti.of s17).trans tl)).append (.cons (.tup (tl _ _ t7') (.cons ?_ (.cons ?_ .nil))) .nil)
        · exact .tup (tl _ _ (Ti.of (((s24.trans (s5'.trans s6')).trans s7')) _ _ tm1)) (.cons (.str _) (.cons (.int _) .nil))
        · refine .tup (tl _ _ (Ti.of s7' _ _ t6')) ?_
          rw [List.map_set]
          exact ImAll.set (Im.mono (((tG.trans (Ti.of s17))).trans tl) (SpotAt.im hsq)) i (im.mono ((Ti.of (sG.trans s17)).trans tl))
    · obtain ⟨sG, tG, eSG, ⟨ac2, eFG, iG⟩, y9', y10', rfl⟩ := p
      refine ⟨sG, ⟨ac2, eFG, ?_⟩, _, _, _, _, _, _, rfl⟩
      rw [flat]
      have e : (choices ln wy S i).take zs.length = choices ln wy S i := List.take_of_length_le (by omega)
      rw [e] at iG
      exact iG
  · obtain ⟨s1, ⟨acc, ea, ia⟩, y4, y5, y6, y7, y9, y10, rfl⟩ := p
    refine ⟨.ref F, rfl, q H1 F acc s1 hF ea ?_⟩
    have e : (xs.length : Int).toNat = S.length := by omega
    rw [e] at ia
    exact ia
end
end Slx

/-! The mathematics of what moves lead to: the stands behind one move, those behind rows, how many there may be. -/
set_option autoImplicit false
namespace Sl
/-- the stands behind one move -/
def behinds (ln : List Int) (wy : List Bool) (S : Stand) : List Stand := (allPairs ln wy S).map fun c => S.set c.1.2 c.2
inductive Reach (ln : List Int) (wy : List Bool) (S : Stand) : Stand → Prop
  | here : Reach ln wy S S
  | on {T U : Stand} : Reach ln wy S T → U ∈ behinds ln wy T → Reach ln wy S U
theorem mem_pairs {ln : List Int} {wy : List Bool} {S : Stand} {c : Mv × Spot} : c ∈ allPairs ln wy S ↔ ∃ k, k < S.length ∧ c ∈ choices ln wy S k := by
  simp [allPairs, List.mem_flatMap]
theorem behinds_ok {ln : List Int} {wy : List Bool} {S T : Stand} (o : OkStand ln wy S) (h : T ∈ behinds ln wy S) : OkStand ln wy T ∧ T.length = S.length := by
  obtain ⟨c, hc, rfl⟩ := List.mem_map.mp h
  obtain ⟨k, _, hk⟩ := mem_pairs.mp hc
  have e := (mem_choices hk).1
  rw [e]
  exact ⟨o.set hk, by simp⟩
theorem Reach.ok {ln : List Int} {wy : List Bool} {S T : Stand} (o : OkStand ln wy S) (h : Reach ln wy S T) : OkStand ln wy T ∧ T.length = S.length := by
  induction h with
  | here => exact ⟨o, rfl⟩
  | on _ h ih =>
    obtain ⟨a, b⟩ := behinds_ok ih.1 h
    exact ⟨a, b.trans ih.2⟩
theorem Reach.trans {ln : List Int} {wy : List Bool} {S T U : Stand} (a : Reach ln wy S T) (b : Reach ln wy T U) : Reach ln wy S U := by
  induction b with
  | here => exact a
  | on _ h ih => exact .on ih h
/-- each train has two choices at most -/
theorem choices_two (ln : List Int) (wy : List Bool) (S : Stand) (k : Nat) : (choices ln wy S k).length ≤ 2 := by
  unfold choices
  split
  · simp
  · rw [List.length_append]
    split <;> split <;> simp
  · split <;> simp
theorem flat_two {α : Type} (f : Nat → List α) (h : ∀ k, (f k).length ≤ 2) : ∀ l : List Nat, (l.flatMap f).length ≤ 2 * l.length
  | [] => by simp
  | x :: l => by
    have := flat_two f h l
    have := h x
    simp only [List.flatMap_cons, List.length_append, List.length_cons]
    omega
theorem behinds_len (ln : List Int) (wy : List Bool) (S : Stand) : (behinds ln wy S).length ≤ 2 * S.length := by
  have := flat_two (fun k => choices ln wy S k) (choices_two ln wy S) (List.range S.length)
  simpa [behinds, allPairs] using this
/-! ### how many stands there are -/
def spotNo (ln : List Int) : Spot → Nat
  | .lane p => p
  | .side p => ln.length + p
  | .out => 2 * ln.length
def standNo (ln : List Int) : Stand → Nat
  | [] => 0
  | s :: S => spotNo ln s + (2 * ln.length + 1) * standNo ln S
theorem spotNo_lt {ln : List Int} {s : Spot} (h : okSpot ln s) : spotNo ln s < 2 * ln.length + 1 := by
  cases s <;> simp only [okSpot, spotNo] at * <;> omega
theorem spotNo_inj {ln : List Int} : ∀ {s t : Spot}, okSpot ln s → okSpot ln t → spotNo ln s = spotNo ln t → s = t
  | .lane p, .lane q, _, _, e => by rw [show p = q from e]
  | .side p, .side q, _, _, e => by rw [Nat.add_left_cancel (show ln.length + p = ln.length + q from e)]
  | .out, .out, _, _, _ => rfl
  | .lane p, .side q, h, _, e => by have a : p < ln.length := h; have b : p = ln.length + q := e; omega
  | .side q, .lane p, _, h, e => by have a : p < ln.length := h; have b : ln.length + q = p := e; omega
  | .lane p, .out, h, _, e => by have a : p < ln.length := h; have b : p = 2 * ln.length := e; omega
  | .out, .lane p, _, h, e => by have a : p < ln.length := h; have b : 2 * ln.length = p := e; omega
  | .side p, .out, h, _, e => by have a : p < ln.length := h; have b : ln.length + p = 2 * ln.length := e; omega
  | .out, .side p, _, h, e => by have a : p < ln.length := h; have b : 2 * ln.length = ln.length + p := e; omega
theorem standNo_lt {ln : List Int} : ∀ {S : Stand}, (∀ s ∈ S, okSpot ln s) → standNo ln S < (2 * ln.length + 1) ^ S.length
  | [], _ => by simp [standNo]
  | s :: S, h => by
    have h1 := spotNo_lt (h s (by simp))
    have h2 := standNo_lt (S := S) fun t ht => h t (by simp [ht])
    simp only [standNo, List.length_cons, Nat.pow_succ]
    have h3 : (2 * ln.length + 1) * (standNo ln S + 1) ≤ (2 * ln.length + 1) * (2 * ln.length + 1) ^ S.length := Nat.mul_le_mul_left _ h2
    rw [Nat.mul_add, Nat.mul_one] at h3
    rw [Nat.mul_comm ((2 * ln.length + 1) ^ S.length)]
    omega
theorem standNo_inj {ln : List Int} : ∀ {S T : Stand}, (∀ s ∈ S, okSpot ln s) → (∀ s ∈ T, okSpot ln s) → S.length = T.length → standNo ln S = standNo ln T → S = T
  | [], [], _, _, _, _ => rfl
  | [], _ :: _, _, _, h, _ => by simp at h
  | _ :: _, [], _, _, h, _ => by simp at h
  | s :: S, t :: T, hs, ht, hl, e => by
    have h1 := spotNo_lt (hs s (by simp))
    have h2 := spotNo_lt (ht t (by simp))
    simp only [standNo] at e
    have e1 : spotNo ln s = spotNo ln t := by
      have := congrArg (· % (2 * ln.length + 1)) e
      simpa [Nat.add_mul_mod_self_left, Nat.mod_eq_of_lt h1, Nat.mod_eq_of_lt h2] using this
    have e2 : standNo ln S = standNo ln T := by
      rw [e1] at e
      exact Nat.eq_of_mul_eq_mul_left (Nat.succ_pos _) (Nat.add_left_cancel e)
    rw [spotNo_inj (hs s (by simp)) (ht t (by simp)) e1, standNo_inj (fun x hx => hs x (by simp [hx])) (fun x hx => ht x (by simp [hx])) (by simpa using hl) e2]
theorem nodup_few : ∀ (l D : List Nat), l.Nodup → (∀ x ∈ l, x ∈ D) → l.length ≤ D.length
  | [], _, _, _ => Nat.zero_le _
  | x :: l, D, nd, h => by
    have hx := h x (by simp)
    have ih := nodup_few l (D.erase x) (List.nodup_cons.mp nd).2 fun y hy => by
      refine (List.mem_erase_of_ne ?_).mpr (h y (by simp [hy]))
      intro e
      exact (List.nodup_cons.mp nd).1 (e ▸ hy)
    rw [List.length_erase_of_mem hx] at ih
    have : 0 < D.length := List.length_pos_of_mem hx
    simp only [List.length_cons]
    omega
/-- the room of a search -/
def room (ln : List Int) (n : Nat) : Nat := (2 * ln.length + 1) ^ n
theorem stands_few {ln : List Int} {n : Nat} {L : List Stand} (nd : L.Nodup) (h : ∀ S ∈ L, S.length = n ∧ ∀ s ∈ S, okSpot ln s) : L.length ≤ room ln n := by
  have := nodup_few (L.map (standNo ln)) (List.range (room ln n)) (by
    refine List.pairwise_map.mpr (List.Pairwise.imp_of_mem (fun {S T} hS hT ne e => ?_) nd)
    exact ne (standNo_inj (h S hS).2 (h T hT).2 ((h S hS).1.trans (h T hT).1.symm) e)) fun x hx => by
    obtain ⟨S, hS, rfl⟩ := List.mem_map.mp hx
    have z := standNo_lt (h S hS).2
    rw [(h S hS).1] at z
    exact List.mem_range.mpr z
  simpa using this
/-! ### a search, step by step: found, and still waiting -/
structure Search (ln : List Int) (wy : List Bool) (S : Stand) (found waiting : List Stand) : Prop where
  nodup : found.Nodup
  foundOk : ∀ T ∈ found, Reach ln wy S T
  waitOk : ∀ T ∈ waiting, Reach ln wy S T
  start : S ∈ found ∨ S ∈ waiting
  next : ∀ T ∈ found, ∀ U ∈ behinds ln wy T, U ∈ found ∨ U ∈ waiting
theorem Search.init (ln : List Int) (wy : List Bool) (S : Stand) : Search ln wy S [] [S] where
  nodup := List.nodup_nil
  foundOk := fun _ h => by simp at h
  waitOk := fun T h => by
    rw [List.mem_singleton.mp h]
    exact .here
  start := .inr (by simp)
  next := fun _ h => by simp at h
theorem Search.old {ln : List Int} {wy : List Bool} {S T : Stand} {found rest : List Stand} (s : Search ln wy S found (rest ++ [T])) (h : T ∈ found) : Search ln wy S found rest where
  nodup := s.nodup
  foundOk := s.foundOk
  waitOk := fun U hU => s.waitOk U (by simp [hU])
  start := by
    rcases s.start with h1 | h1
    · exact .inl h1
    · rcases List.mem_append.mp h1 with h2 | h2
      · exact .inr h2
      · rw [List.mem_singleton.mp h2]; exact .inl h
  next := fun U hU W hW => by
    rcases s.next U hU W hW with h1 | h1
    · exact .inl h1
    · rcases List.mem_append.mp h1 with h2 | h2
      · exact .inr h2
      · rw [List.mem_singleton.mp h2]; exact .inl h
theorem Search.new {ln : List Int} {wy : List Bool} {S T : Stand} {found rest : List Stand} (s : Search ln wy S found (rest ++ [T])) (h : T ∉ found) : Search ln wy S (found ++ [T]) (rest ++ behinds ln wy T) where
  nodup := by
    rw [List.nodup_append]
    refine ⟨s.nodup, by simp, fun a ha b hb e => ?_⟩
    rw [List.mem_singleton.mp hb] at e
    exact h (e ▸ ha)
  foundOk := fun U hU => by
    rcases List.mem_append.mp hU with h1 | h1
    · exact s.foundOk U h1
    · rw [List.mem_singleton.mp h1]
      exact s.waitOk T (by simp)
  waitOk := fun U hU => by
    rcases List.mem_append.mp hU with h1 | h1
    · exact s.waitOk U (by simp [h1])
    · exact .on (s.waitOk T (by simp)) h1
  start := by
    rcases s.start with h1 | h1
    · exact .inl (by simp [h1])
    · rcases List.mem_append.mp h1 with h2 | h2
      · exact .inr (by simp [h2])
      · exact .inl (by simp [List.mem_singleton.mp h2])
  next := fun U hU W hW => by
    rcases List.mem_append.mp hU with h1 | h1
    · rcases s.next U h1 W hW with h2 | h2
      · exact .inl (by simp [h2])
      · rcases List.mem_append.mp h2 with h3 | h3
        · exact .inr (by simp [h3])
        · exact .inl (by simp [List.mem_singleton.mp h3])
    · rw [List.mem_singleton.mp h1] at hW
      exact .inr (by simp [hW])
theorem Search.done {ln : List Int} {wy : List Bool} {S : Stand} {found : List Stand} (s : Search ln wy S found []) (T : Stand) : T ∈ found ↔ Reach ln wy S T := by
  refine ⟨s.foundOk T, fun h => ?_⟩
  induction h with
  | here =>
    rcases s.start with h | h
    · exact h
    · simp at h
  | on _ hU ih =>
    rcases s.next _ ih _ hU with h | h
    · exact h
    · simp at h
theorem Search.few {ln : List Int} {wy : List Bool} {S : Stand} {found waiting : List Stand} (s : Search ln wy S found waiting) (o : OkStand ln wy S) : found.length ≤ room ln S.length :=
  stands_few s.nodup fun T hT => ⟨((s.foundOk T hT).ok o).2, ((s.foundOk T hT).ok o).1.spot⟩
end Sl

set_option Elab.async false
set_option linter.all false
set_option maxRecDepth 100000
set_option maxHeartbeats 4000000
/-! Dicts whose keys are data that never change (Im): a stand, a move. By the library's nested keys. -/
namespace Sl
open PySem PySem.Spec PyProof.Rows L2
section
variable {X : Cx} {pins : List (Addr × Obj)} {σ : L2.St} {H : Hp} {s : Shared}
/-! ### a key -/
mutual
theorem Im.nested (J : Inv X pins σ H s) : ∀ (k : NestedKey) (v : V) (u : Value), Im H v k.data → RelV v u → NestedIs s.heap k u
  | .none, _, _, h, r => by
    simp only [NestedKey.data] at h
    cases h
    cases r
    exact .none
  | .num i, _, _, h, r => by
    simp only [NestedKey.data] at h
    cases h
    obtain ⟨t, e⟩ := (show ∃ t, _ = Value.int i t from r)
    subst e
    exact .int i t
  | .text x, _, _, h, r => by
    simp only [NestedKey.data] at h
    cases h
    obtain ⟨t, e⟩ := (show ∃ t, _ = Value.str x t from r)
    subst e
    exact .text x t
  | .tup ks, _, _, h, r => by
    simp only [NestedKey.data] at h
    cases h with
    | tup at_ all_ =>
      cases r
      obtain ⟨vals, rels, ⟨o, h1, h2, n, h3⟩, _⟩ := J.tuple (at_.sq (K := X.K))
      exact .tup h1 h2 h3 (ImAll.nested J ks _ vals all_ rels)
theorem ImAll.nested (J : Inv X pins σ H s) : ∀ (ks : List NestedKey) (vs : List V) (us : List Value), ImAll H vs (NestedKey.datas ks) → Vals vs us → NestedAll s.heap ks us
  | [], _, _, h, r => by
    simp only [NestedKey.datas] at h
    cases h
    cases r
    exact .nil
  | k :: ks, _, _, h, r => by
    simp only [NestedKey.datas] at h
    cases h with
    | cons h1 h2 =>
      cases r with
      | cons r1 r2 => exact .cons (Im.nested J k _ _ h1 r1) (ImAll.nested J ks _ _ h2 r2)
end
/-- the tuple at b is the key k, for good -/
def KeyAt (H : Hp) (b : Addr) (k : NestedKey) : Prop := Im H (.ref b) k.data ∧ k.depth ≤ 8
theorem KeyAt.mono {H H' : Hp} {b : Addr} {k : NestedKey} (t : Ti H H') (h : KeyAt H b k) : KeyAt H' b k := ⟨h.1.mono t, h.2⟩
theorem KeyAt.is {b : Addr} {k : NestedKey} (J : Inv X pins σ H s) (h : KeyAt H b k) : (nestedKind X.prog X.w).is s.heap k b := ⟨h.1.nested J k _ _ rfl, h.2⟩
end
/-! ### the entries: a key, its tuple, its value -/
abbrev Ent := NestedKey × Addr × V
def valN (ks : List Ent) (k : NestedKey) : Option V := (ks.find? fun x => decide (x.1 = k)).map (·.2.2)
def putN (ks : List Ent) (k : NestedKey) (b : Addr) (v : V) : List Ent := if (valN ks k).isSome = true then ks.map (fun x => if x.1 = k then (x.1, x.2.1, v) else x) else ks ++ [(k, b, v)]
abbrev EntRel : List Ent → List (NestedKey × Addr × Value) → Prop := Paired fun p q => p.1 = q.1 ∧ p.2.1 = q.2.1 ∧ RelV p.2.2 q.2.2
theorem EntRel.val {ks : List Ent} {xs : List (NestedKey × Addr × Value)} (r : EntRel ks xs) (k : NestedKey) : RelO (valN ks k) ((atKey xs k).map (·.2)) := by
  unfold valN atKey
  induction r with
  | nil => exact True.intro
  | @cons p q ps qs h t ih =>
    simp only [List.find?_cons]
    rw [h.1]
    by_cases e : q.1 = k
    · simp only [decide_eq_true e, Option.map_some]
      exact h.2.2
    · simp only [decide_eq_false e]
      exact ih
theorem EntRel.put {ks : List Ent} {xs : List (NestedKey × Addr × Value)} (r : EntRel ks xs) (k : NestedKey) (b : Addr) {v : V} {u : Value} (rv : RelV v u) : EntRel (putN ks k b v) (storedH xs k b u) := by
  have e : (valN ks k).isSome = (atKey xs k).isSome := by
    have := (r.val k).isSome_eq
    rwa [Option.isSome_map] at this
  unfold putN storedH
  rw [e]
  by_cases q : (atKey xs k).isSome = true
  · rw [if_pos q, if_pos q]
    clear e q
    induction r with
    | nil => exact .nil
    | @cons p q ps qs h t ih =>
      rw [List.map_cons, List.map_cons]
      refine .cons ?_ ih
      unfold putAt
      rw [h.1]
      by_cases z : q.1 = k
      · rw [if_pos z, if_pos z]
        exact ⟨h.1 ▸ rfl, h.2.1, rv⟩
      · rw [if_neg z, if_neg z]
        exact h
  · rw [if_neg q, if_neg q]
    exact Paired.snoc r ⟨rfl, rfl, rv⟩
theorem putN_length (ks : List Ent) (k : NestedKey) (b : Addr) (v : V) : (putN ks k b v).length ≤ ks.length + 1 := by
  unfold putN
  split <;> simp
theorem putN_keys {H : Hp} {ks : List Ent} {k : NestedKey} {b : Addr} {v : V} (h : ∀ x ∈ ks, KeyAt H x.2.1 x.1) (hb : KeyAt H b k) : ∀ x ∈ putN ks k b v, KeyAt H x.2.1 x.1 := by
  unfold putN
  split
  · intro x hx
    obtain ⟨y, hy, e⟩ := List.mem_map.mp hx
    by_cases z : y.1 = k
    · rw [if_pos z] at e
      rw [← e]
      exact h y hy
    · rw [if_neg z] at e
      rw [← e]
      exact h y hy
  · intro x hx
    rcases List.mem_append.mp hx with hx | hx
    · exact h x hx
    · rw [List.mem_singleton.mp hx]
      exact hb
/-! ### the dict at a -/
def dPhi (P : Program) (w : World) (a : Addr) (ks : List Ent) (h : Heap) : Prop := ks.length ≤ sizeLine ∧ (a == sysModules) = false ∧ ∃ xs, EntRel ks xs ∧
  ∃ o es ep, h.get? a = some o ∧ o.ExactDict ∧ o.data = .dict es ep ∧ es.toList = xs.map (entryOfKey (nestedKind P w)) ∧ (xs.map (·.1)).Nodup
def dNO (P : Program) (w : World) (a : Addr) (ks : List Ent) : HO := .ext (dPhi P w a ks)
theorem dNO_ok {P : Program} {w : World} {H : Hp} {h : Heap} {a : Addr} {ks : List Ent} (d : dPhi P w a ks h) : ObjOk P w H h a (dNO P w a ks) := by
  refine ⟨d, ?_, fun h1 h2 p k => ?_⟩
  · obtain ⟨_, _, _, _, o, _, _, e, _⟩ := d
    exact ⟨o, e⟩
  · obtain ⟨z, y, xs, r, o, es, ep, e, c⟩ := p
    exact ⟨z, y, xs, r, o, es, ep, k _ e, c⟩
/-- a dict, its keys for good -/
structure DN (P : Program) (w : World) (H : Hp) (a : Addr) (ks : List Ent) : Prop where
  at_ : H a = some (dNO P w a ks)
  keys : ∀ x ∈ ks, KeyAt H x.2.1 x.1
/-- the same to read: or locked -/
structure DR (P : Program) (w : World) (H : Hp) (a : Addr) (ks : List Ent) : Prop where
  at_ : Rd H a (dNO P w a ks)
  keys : ∀ x ∈ ks, KeyAt H x.2.1 x.1
/-- locked -/
structure DL (P : Program) (w : World) (H : Hp) (a : Addr) (o : Obj) (ks : List Ent) : Prop where
  at_ : H a = some (.frz o (dNO P w a ks))
  keys : ∀ x ∈ ks, KeyAt H x.2.1 x.1
section
variable {P : Program} {w : World} {H H' : Hp} {a : Addr} {ks : List Ent} {o : Obj}
theorem DN.rd (d : DN P w H a ks) : DR P w H a ks := ⟨.inl d.at_, d.keys⟩
theorem DL.rd (d : DL P w H a o ks) : DR P w H a ks := ⟨.inr ⟨o, d.at_⟩, d.keys⟩
theorem DN.same (d : DN P w H a ks) (s : Same H H') : DN P w H' a ks := ⟨s _ _ d.at_, fun x hx => (d.keys x hx).mono (Ti.of s)⟩
theorem DL.same (d : DL P w H a o ks) (s : Same H H') : DL P w H' a o ks := ⟨s _ _ d.at_, fun x hx => (d.keys x hx).mono (Ti.of s)⟩
theorem DR.same (d : DR P w H a ks) (s : Same H H') : DR P w H' a ks := ⟨by
  rcases d.at_ with e | ⟨o, e⟩
  · exact .inl (s _ _ e)
  · exact .inr ⟨o, s _ _ e⟩, fun x hx => (d.keys x hx).mono (Ti.of s)⟩
/-- a write at the dict leaves tuples where they are -/
theorem Ti.dict {u : HO} (h : H a = some (dNO P w a ks)) : Ti H (upd H a u) := fun b ys ⟨v, e, d⟩ => ⟨v, by
  rw [upd_ne (fun z => by subst z; rw [h] at e; cases e)]
  exact e, d⟩
theorem DN.put (d : DN P w H a ks) {b : Addr} {k : NestedKey} (v : V) (hb : KeyAt H b k) : DN P w (upd H a (dNO P w a (putN ks k b v))) a (putN ks k b v) :=
  ⟨upd_same, fun x hx => (putN_keys d.keys hb x hx).mono (Ti.dict d.at_)⟩
end
section
variable {X : Cx} {pins : List (Addr × Obj)} {σ : L2.St} {H : Hp} {s : Shared} {a b : Addr} {ks : List Ent} {k : NestedKey} {A : Around} {E : Value → Shared → Prop}
theorem keys_rel {ks : List Ent} {xs : List (NestedKey × Addr × Value)} (r : EntRel ks xs) {R : NestedKey → Addr → Prop} (h : ∀ x ∈ ks, R x.1 x.2.1) : ∀ x ∈ xs, R x.1 x.2.1 := by
  induction r with
  | nil => intro x hx; cases hx
  | @cons p q ps qs e t ih =>
    intro x hx
    rcases List.mem_cons.mp hx with z | z
    · subst z
      rw [← e.1, ← e.2.1]
      exact h p (List.mem_cons_self ..)
    · exact ih (fun y hy => h y (List.mem_cons_of_mem _ hy)) x z
theorem DR.heap (d : DR X.prog X.w H a ks) (J : Inv X pins σ H s) : ks.length ≤ sizeLine ∧ (a == sysModules) = false ∧ ∃ xs, EntRel ks xs ∧ s.heap.DictOfH (nestedKind X.prog X.w) a xs := by
  obtain ⟨⟨z, y, xs, r, o, es, ep, h1, h2, h3, h4, h5⟩, _⟩ := (show ObjOk X.prog X.w H s.heap a (dNO X.prog X.w a ks) from rd_of J.hok d.at_)
  exact ⟨z, y, xs, r, o, es, ep, h1, h2, h3, h4, keys_rel r fun x hx => (d.keys x hx).is J, h5⟩
theorem room_n (hu : A.units + 9 < cLine) : (nestedKind X.prog X.w).room A.in1 := by
  show A.in1.units + 8 < cLine
  rw [Around.in1_units]
  omega
/-- what is asked of a reading: d there, y the key k -/
abbrev AskD (P : Program) (w : World) (H : Hp) (x y : V) (Q : List Ent → NestedKey → Prop) : Prop := ∃ a b ks k, (x = .ref a ∧ y = .ref b) ∧ (DR P w H a ks ∧ KeyAt H b k) ∧ Q ks k
def tNGet (P : Program) (w : World) (td ty : TE) : TE := fun σ H Q => td σ H fun x H1 => ty σ H1 fun y H2 => AskD P w H2 x y fun ks k => ∃ v, valN ks k = some v ∧ Q v H2
def tNIn (P : Program) (w : World) (ty td : TE) : TE := fun σ H Q => ty σ H fun y H1 => td σ H1 fun x H2 => AskD P w H2 x y fun ks k => Q (.bl (valN ks k).isSome) H2
def tNNotIn (P : Program) (w : World) (ty td : TE) : TE := fun σ H Q => ty σ H fun y H1 => td σ H1 fun x H2 => AskD P w H2 x y fun ks k => Q (.bl (!(valN ks k).isSome)) H2
def sNPut (P : Program) (w : World) (td ty tv : TE) : TS := fun D σ H => tv σ H fun v H1 => td σ H1 fun x H2 => ty σ H2 fun y H3 => ∃ a b ks k, (x = .ref a ∧ y = .ref b) ∧ (DN P w H3 a ks ∧ KeyAt H3 b k) ∧ ks.length < sizeLine ∧
  D.nx σ (upd H3 a (dNO P w a (putN ks k b v)))
def tNNew (P : Program) (w : World) : TE := fun _ H Q => ∀ p, H p = none → Q (.ref p) (upd H p (dNO P w p []))
end
section
variable {X : Cx} {o i value : Expr} {pos pos' : Pos} {td ty tv : TE} {P : Program} {w : World}
theorem pe_nget (hu : X.A.units + 9 < cLine) (ho : PE X o td) (hi : PE X i ty) (hs : NoSl i) (hP : X.prog = P := by rfl) (hw : X.w = w := by rfl) : PE X (.Subscript o i pos) (tNGet P w td ty) := ⟨fun pins s σ H Q I h => by
  subst hP hw
  refine subD_of PySem.F.slot_dict_getitem.lookup hs (thn (ho.run pins s σ H _ I h) fun u s1 ⟨x, H1, I1, rx, q1⟩ => thn (hi.run pins s1 σ H1 _ I1 q1) fun iv s2 ⟨y, H2, I2, ry, a, b, ks, k, ⟨ex, ey⟩, ⟨d, hk⟩, v, hv, q2⟩ => ?_)
  subst ex ey
  cases rx
  cases ry
  obtain ⟨_, _, xs, rel, dd⟩ := d.heap I2
  obtain ⟨w', hw, rw'⟩ := RelO.some_of (v := v) (o := (atKey xs k).map (·.2)) (by rw [← hv]; exact rel.val k)
  obtain ⟨p, hp, rfl⟩ := Option.map_eq_some_iff.mp hw
  exact ⟨dd.typeIs, wpAny_getItem_heap (room_n hu) (hk.is I2) dd hp ⟨v, H2, I2.tok _, rw', q2⟩⟩⟩
theorem pc_nin (hu : X.A.units + 9 < cLine) (hi : PE X i ty) (ho : PE X o td) (hP : X.prog = P := by rfl) (hw : X.w = w := by rfl) : PC X .In i o (tNIn P w ty td) := ⟨fun pins s σ H Q I h => by
  subst hP hw
  refine thn (hi.run pins s σ H _ I h) fun iv s1 ⟨y, H1, I1, ry, q1⟩ => thn (ho.run pins s1 σ H1 _ I1 q1) fun u s2 ⟨x, H2, I2, rx, a, b, ks, k, ⟨ex, ey⟩, ⟨d, hk⟩, q2⟩ => ?_
  subst ex ey
  cases rx
  cases ry
  obtain ⟨_, hd, xs, rel, dd⟩ := d.heap I2
  have e := (rel.val k).isSome_eq
  rw [Option.isSome_map] at e
  refine wpAny_in_heap (room_n hu) (hk.is I2) hd dd ?_
  rw [← e]
  exact ⟨.bl _, H2, I2.tok _, rfl, q2⟩⟩
theorem pc_nnotin (hu : X.A.units + 9 < cLine) (hi : PE X i ty) (ho : PE X o td) (hP : X.prog = P := by rfl) (hw : X.w = w := by rfl) : PC X .NotIn i o (tNNotIn P w ty td) := ⟨fun pins s σ H Q I h => by
  subst hP hw
  refine thn (hi.run pins s σ H _ I h) fun iv s1 ⟨y, H1, I1, ry, q1⟩ => thn (ho.run pins s1 σ H1 _ I1 q1) fun u s2 ⟨x, H2, I2, rx, a, b, ks, k, ⟨ex, ey⟩, ⟨d, hk⟩, q2⟩ => ?_
  subst ex ey
  cases rx
  cases ry
  obtain ⟨_, hd, xs, rel, dd⟩ := d.heap I2
  have e := (rel.val k).isSome_eq
  rw [Option.isSome_map] at e
  show wpAny _ _ (do return Value.bool (!(← contains (.ref a) (.ref b)))) _ _ _
  refine wpAny_bind (wpAny_contains_heap (room_n hu) (hk.is I2) hd dd (wpAny_pure ?_))
  rw [← e]
  exact ⟨.bl _, H2, I2.tok _, rfl, q2⟩⟩
theorem ps_nput (hu : X.A.units + 9 < cLine) (ho : PE X o td) (hi : PE X i ty) (hv : PE X value tv) (hs : swapsWith value (some (.Subscript o i pos')) pos.line X.env = pure false) (hP : X.prog = P := by rfl) (hw : X.w = w := by rfl) :
    PS X (.Assign [.Subscript o i pos'] value pos) (sNPut P w td ty tv) := ⟨fun pins s σ H D I h => by
  subst hP hw
  refine wpAny_Assign_Subscript (thn (hv.run pins s σ H _ I h) fun r s1 ⟨v, H1, I1, rv, q1⟩ => thn (ho.run pins s1 σ H1 _ I1 q1) fun u s2 ⟨x, H2, I2, rx, q2⟩ => thn (hi.run pins s2 σ H2 _ I2 q2) fun iv s3 ⟨y, H3, I3, ry, a, b, ks, k, ⟨ex, ey⟩, ⟨d, hk⟩, hl, q3⟩ => ?_) hs
  subst ex ey
  cases rx
  cases ry
  obtain ⟨z, hd, xs, rel, dd⟩ := d.rd.heap I3
  have hz : xs.length ≤ sizeLine := by rw [← Paired.length rel]; exact z
  refine wpAny_setItem_heap (hsz := hz) (room_n hu) (hk.is I3) dd fun h' dd' hs => ?_
  obtain ⟨q, es, ep, hq, h2, h3, h4, _, h5⟩ := dd'
  refine ⟨σ, _, d_write I3 (by rw [d.at_]; exact True.intro) hs ⟨q, hq⟩ (dNO_ok ⟨?_, hd, _, rel.put k b rv, q, es, ep, hq, h2, h3, h4, h5⟩), q3⟩
  have := putN_length ks k b v
  omega⟩
theorem pe_nnew (hP : X.prog = P := by rfl) (hw : X.w = w := by rfl) : PE X (.Dict [] [] pos) (tNNew P w) := ⟨fun pins s σ H Q I h => by
  subst hP hw
  exact wpAny_Dict_empty ⟨.ref s.heap.objs.size, _, I.laid (a := s.heap.objs.size) (o := dNO X.prog X.w s.heap.objs.size []) (t' := s.toks) (fun _ _ q => Heap.get?_push_of_some _ q) (Nat.le_refl _)
    (dNO_ok ⟨Nat.zero_le _, beq_eq_false_iff_ne.mpr (Ne.symm (Nat.ne_of_lt I.big)), [], .nil, _, #[], 0, Heap.get?_push_size _ rfl, ⟨rfl, rfl, rfl⟩, rfl, rfl, List.nodup_nil⟩), rfl, h _ (I.hok.fresh (Nat.le_refl _))⟩⟩
end
end Sl

set_option Elab.async false
set_option linter.all false
set_option maxRecDepth 100000
set_option maxHeartbeats 4000000
/-! More of the dicts keyed by data: len, dict(pairs), their keys walked, list(d). -/
namespace Sl
open PySem PySem.Spec PyProof.Rows L2
/-! ### len -/
section
variable {X : Cx}
def rLenN (P : Program) (w : World) : List V → Hp → VK → Prop := fun xs H Q => ∃ a ks, xs = [.ref a] ∧ DR P w H a ks ∧ Q (.int ((ks.length : Nat) : Int)) H
theorem call_lenN {P : Program} {w : World} (hP : X.prog = P := by rfl) (hw : X.w = w := by rfl) : CallR X (.builtin "len") (rLenN P w) := fun pins s σ H _ us Q J rs ⟨a, ks, e, d, q⟩ => by
  subst hP hw
  subst e
  obtain ⟨u, eu, ru⟩ := Vals.one rs
  subst eu
  cases ru
  obtain ⟨z, hd, xs, rel, dd⟩ := d.heap J
  have l := Paired.length rel
  refine call_len_dictH hd dd (by rw [sizeLine_eq] at z; omega) ?_
  rw [← l]
  exact ⟨.int _, H, J.tok _, ⟨_, rfl⟩, q⟩
end
/-! ### dict(pairs) -/
/-- the entries behind the pairs, one put behind the other -/
def putsN (ks more : List Ent) : List Ent := more.foldl (fun acc x => putN acc x.1 x.2.1 x.2.2) ks
theorem EntRel.puts : ∀ {more : List Ent} {ys : List (NestedKey × Addr × Value)} {ks : List Ent} {xs : List (NestedKey × Addr × Value)}, EntRel more ys → EntRel ks xs → EntRel (putsN ks more) (storedAllH xs ys) := by
  intro more ys ks xs r
  induction r generalizing ks xs with
  | nil => intro q; exact q
  | @cons p q ps qs h t ih =>
    intro r0
    have z := r0.put p.1 p.2.1 h.2.2
    rw [h.1, h.2.1] at z
    show EntRel (putsN (putN ks p.1 p.2.1 p.2.2) ps) (storedAllH (storedH xs q.1 q.2.1 q.2.2) qs)
    rw [h.1, h.2.1]
    exact ih z
theorem putsN_length : ∀ (more ks : List Ent), (putsN ks more).length ≤ ks.length + more.length
  | [], ks => Nat.le_refl _
  | p :: r, ks => by
    have h1 := putsN_length r (putN ks p.1 p.2.1 p.2.2)
    have h2 := putN_length ks p.1 p.2.1 p.2.2
    show (putsN (putN ks p.1 p.2.1 p.2.2) r).length ≤ _
    rw [List.length_cons]
    omega
theorem putsN_keys {H : Hp} : ∀ {more ks : List Ent}, (∀ x ∈ ks, KeyAt H x.2.1 x.1) → (∀ x ∈ more, KeyAt H x.2.1 x.1) → ∀ x ∈ putsN ks more, KeyAt H x.2.1 x.1
  | [], _, h, _ => h
  | p :: r, ks, h, g => putsN_keys (more := r) (putN_keys h (g p (List.mem_cons_self ..))) fun x hx => g x (List.mem_cons_of_mem _ hx)
section
variable {X : Cx}
theorem ents_of {pins : List (Addr × Obj)} {σ : L2.St} {H : Hp} {s : Shared} (J : Inv X pins σ H s) : ∀ {ps : List Addr} {es : List Ent}, Paired (fun p e => SqT X.K H p [.ref e.2.1, e.2.2]) ps es →
    ∃ ys, EntRel es ys ∧ ys.length = ps.length ∧ ∀ (j : Nat) (y : NestedKey × Addr × Value), ys[j]? = some y → ∃ b, ps[j]? = some b ∧ IsTup s.heap b #[.ref y.2.1, y.2.2]
  | _, _, .nil => ⟨[], .nil, rfl, fun j q e => by simp at e⟩
  | _, _, .cons (a := p) (b := e) h t => by
    obtain ⟨ys, r, hl, hp⟩ := ents_of J t
    obtain ⟨its, rv, ht, _⟩ := J.tuple h
    obtain ⟨u, y, ei, ru, ry⟩ := vals2 rv
    subst ei
    cases ru
    refine ⟨(e.1, e.2.1, y) :: ys, .cons ⟨rfl, rfl, ry⟩ r, by simp [hl], fun j q e' => ?_⟩
    cases j with
    | zero =>
      have z : (e.1, e.2.1, y) = q := by simpa using e'
      subst z
      exact ⟨p, rfl, ht⟩
    | succ j =>
      obtain ⟨b, e1, e2⟩ := hp j q (by simpa using e')
      exact ⟨b, by simpa using e1, e2⟩
theorem dict_of {pins : List (Addr × Obj)} {σ : L2.St} {H : Hp} {s : Shared} {a : Addr} {ps : List Addr} {es : List Ent} {us : List Value} {Q : Value → Shared → Prop} (hc : X.calm = true) (hu : X.A.units + 10 < cLine) (J : Inv X pins σ H s) (rs : Vals [V.ref a] us)
    (hq : SqL X.K H a (ps.map V.ref)) (hp : Paired (fun p (e : Ent) => SqT X.K H p [.ref e.2.1, e.2.2]) ps es) (hk : ∀ x ∈ es, KeyAt H x.2.1 x.1)
    (fin : ∀ (h' : Heap) (tk : Nat) (o : Obj), (∀ b ob, s.heap.get? b = some ob → h'.get? b = some ob) → h'.get? s.heap.objs.size = some o → dPhi X.prog X.w s.heap.objs.size (putsN [] es) h' → Q (.ref s.heap.objs.size) { s with heap := h', toks := tk }) :
    wpAny (model X.prog X.w) X.A (call (.type "dict") us) Q X.xe s := by
  obtain ⟨u, eu, ru⟩ := Vals.one rs
  subst eu
  cases ru
  obtain ⟨its, rv, pl, hz⟩ := J.list hq
  have ei := refs_at rv
  subst ei
  rw [List.length_map] at hz
  obtain ⟨ys, rel, hl, hy⟩ := ents_of J hp
  obtain ⟨o, n, ho, hcl, hd, hdat⟩ := pl
  have hle : es.length = ys.length := Paired.length rel
  let Ts : Nat → Addr := fun j => ps.getD j 0
  let prs : List (Value × Value) := ys.map fun y => (.ref y.2.1, y.2.2)
  have items : PairItems s.heap (ps.map Value.ref).toArray Ts prs := by
    refine ⟨by simp [prs, hl], fun j k v hj => ?_⟩
    have hj' : (ys.map fun y : NestedKey × Addr × Value => (Value.ref y.2.1, y.2.2))[j]? = some (k, v) := hj
    rw [List.getElem?_map] at hj'
    obtain ⟨y, hy1, hy2⟩ := Option.map_eq_some_iff.mp hj'
    cases hy2
    obtain ⟨b, hb, ht⟩ := hy j y hy1
    have hT : Ts j = b := by show ps.getD j 0 = b; rw [List.getD_eq_getElem?_getD, hb]; rfl
    rw [hT]
    exact ⟨by simp [hb], .inl ht⟩
  have P := PairArg.list (prog := X.prog) (w := X.w) a (ps.map Value.ref).toArray Ts prs
  have keysAt : ∀ y ∈ ys, (nestedKind X.prog X.w).is s.heap y.1 y.2.1 := keys_rel rel fun x hx => (hk x hx).is J
  have hps : prs.length = ys.length := by simp [prs]
  have room : (nestedKind X.prog X.w).room X.A.in1.in1 := by
    show X.A.in1.in1.units + 8 < cLine
    rw [Around.in1_units, Around.in1_units]
    omega
  refine call_dict_pairsH (knd := nestedKind X.prog X.w) (ps := ys) P (J.ok.hd hc) room ⟨⟨o, n, ho, hcl, hd, hdat⟩, items⟩ ⟨hps.symm, fun i key v hr => ?_⟩ (fun h' kp x hx => ?_) (by rw [hps, hl]; exact hz) fun h' tk hd' kp => ?_
  · have hr' : (ys.map fun y : NestedKey × Addr × Value => (Value.ref y.2.1, y.2.2))[i]? = some (key, v) := hr
    rw [List.getElem?_map] at hr'
    obtain ⟨y, hy1, hy2⟩ := Option.map_eq_some_iff.mp hr'
    cases hy2
    exact ⟨y.1, y.2.1, hy1, rfl⟩
  · exact nestedKind_stays.stays (fun b ob vs m e _ => kp b ob (Nat.ne_of_lt (Heap.lt_size e)) (fun z => nomatch z) e) (keysAt x hx)
  · have lo : (s.heap.objs.size == sysModules) = false := beq_eq_false_iff_ne.mpr (Nat.ne_of_gt J.big)
    obtain ⟨oq, eq, ep, h1, h2, h3, h4, _, h6⟩ := hd'
    have hlen : (putsN [] es).length ≤ sizeLine := by
      have := putsN_length es []
      rw [List.length_nil] at this
      omega
    exact fin h' tk oq (fun b ob e => kp b ob (fun z => nomatch z) e) h1 ⟨hlen, lo, _, EntRel.puts rel .nil, oq, eq, ep, h1, h2, h3, h4, h6⟩
/-- dict(a list of pairs of a key and a value): to be written to, or locked for good -/
abbrev AskP (K : PySem.W.Frag) (xs : List V) (H : Hp) (R : List Ent → Prop) : Prop := ∃ (a : Addr) (ps : List Addr) (es : List Ent), xs = [.ref a] ∧ SqL K H a (ps.map V.ref) ∧ (Paired (fun p (e : Ent) => SqT K H p [.ref e.2.1, e.2.2]) ps es ∧ ∀ x ∈ es, KeyAt H x.2.1 x.1) ∧ R es
def rDictN (P : Program) (w : World) (K : PySem.W.Frag) : List V → Hp → VK → Prop := fun xs H Q => AskP K xs H fun es => ∀ p, H p = none → Q (.ref p) (upd H p (dNO P w p (putsN [] es)))
def rDictL (P : Program) (w : World) (K : PySem.W.Frag) : List V → Hp → VK → Prop := fun xs H Q => AskP K xs H fun es => ∀ p o, H p = none → Q (.ref p) (upd H p (.frz o (dNO P w p (putsN [] es))))
theorem call_dictN {P : Program} {w : World} {K : PySem.W.Frag} (hc : X.calm = true) (hu : X.A.units + 10 < cLine) (hP : X.prog = P := by rfl) (hw : X.w = w := by rfl) (hK : X.K = K := by rfl) : CallR X (.type "dict") (rDictN P w K) := fun pins s σ H _ us Q J rs ⟨a, ps, es, e, hq, ⟨hp, hk⟩, q⟩ => by
  subst hP hw hK
  subst e
  exact dict_of hc hu J rs hq hp hk fun h' tk o kp _ ok => ⟨.ref _, _, J.laid (t' := tk) kp (Nat.le_refl _) (dNO_ok ok), rfl, q _ (J.hok.fresh (Nat.le_refl _))⟩
theorem call_dictL {P : Program} {w : World} {K : PySem.W.Frag} (hc : X.calm = true) (hu : X.A.units + 10 < cLine) (hP : X.prog = P := by rfl) (hw : X.w = w := by rfl) (hK : X.K = K := by rfl) : CallR X (.type "dict") (rDictL P w K) := fun pins s σ H _ us Q J rs ⟨a, ps, es, e, hq, ⟨hp, hk⟩, q⟩ => by
  subst hP hw hK
  subst e
  exact dict_of hc hu J rs hq hp hk fun h' tk o kp at_ ok => ⟨.ref _, _, J.laid (t' := tk) (o := .frz o (dNO X.prog X.w s.heap.objs.size (putsN [] es))) kp (Nat.le_refl _) ⟨at_, dNO_ok ok⟩, rfl, q _ o (J.hok.fresh (Nat.le_refl _))⟩
end
/-! ### for k in d -/
section
variable {X : Cx} {pins : List (Addr × Obj)} {σ : L2.St} {H : Hp} {s : Shared} {a : Addr} {o : Obj} {ks : List Ent}
theorem ent_get {ks : List Ent} {xs : List (NestedKey × Addr × Value)} (r : EntRel ks xs) {i : Nat} {e : Ent} (h : ks[i]? = some e) : ∃ x, xs[i]? = some x ∧ e.2.1 = x.2.1 := by
  obtain ⟨b, hb, g⟩ := paired_get r h
  exact ⟨b, hb, g.2.1⟩
theorem raw_n (J : Inv X pins σ H s) (h : Rd H a (dNO X.prog X.w a ks)) : (a == sysModules) = false ∧ ks.length ≤ sizeLine ∧ ∃ ob es ep, s.heap.get? a = some ob ∧ ob.ExactDict ∧ ob.data = .dict es ep ∧ es.size = ks.length ∧
    ∀ (i : Nat) (e : Ent), ks[i]? = some e → ∃ en : DictEntry, es[i]? = some en ∧ en.key = .ref e.2.1 := by
  obtain ⟨⟨z, lo, xs, rel, ob, es, ep, h1, h2, h3, h4, _⟩, _⟩ := (show ObjOk X.prog X.w H s.heap a (dNO X.prog X.w a ks) from rd_of J.hok h)
  refine ⟨lo, z, ob, es, ep, h1, h2, h3, ?_, fun i e he => ?_⟩
  · have l1 : es.size = xs.length := size_of_entries h4
    have l2 := Paired.length rel
    omega
  · obtain ⟨x, hx, ex⟩ := ent_get rel he
    have q := entry_at h4 i
    rw [hx] at q
    exact ⟨_, q, by rw [ex]; rfl⟩
theorem raw_lock (J : Inv X pins σ H s) (h : H a = some (.frz o (dNO X.prog X.w a ks))) : s.heap.get? a = some o := (J.hok a _ h).1
end
/-- the keys of the locked dict, in their order -/
def ItN (P : Program) (w : World) (a : Addr) (o : Obj) (ks : List Ent) : It where
  go := fun i H => H a = some (.frz o (dNO P w a ks)) ∧ i < ks.length
  yld := fun i H x H' => H' = H ∧ ∃ e, ks[i]? = some e ∧ x = .ref e.2.1
  stop := fun i H => H a = some (.frz o (dNO P w a ks)) ∧ ks.length ≤ i
theorem turn_n {P : Program} {w : World} {K : PySem.W.Frag} {tg : Expr} {a : Addr} {o : Obj} {es : Array DictEntry} {ep : Nat} {ks : List Ent} (it : Addr) (hod : o.data = .dict es ep) : Turn P w K tg (ItN P w a o ks) [it] it (fun i h => h.IsKeyIter it a i ks.length ep) where
  mem := List.mem_singleton.mpr rfl
  obj := fun i h ⟨oi, e, _, dd⟩ b hb => by
    cases List.mem_singleton.mp hb
    exact ⟨oi, e, fun v z => nomatch dd.symm.trans z⟩
  keep := fun i h h' st k => st.at fun oi e => k it (List.mem_singleton.mpr rfl) oi e
  item := by
    rintro Y rfl rfl rfl calm i pn s σ H E J fr st ⟨hd, hi⟩
    obtain ⟨f0, f1, f2, f3, f4, f5⟩ := fr it (List.mem_singleton.mpr rfl)
    obtain ⟨lo, _, ob, es', ep', g, hx, hdt, sz, ent⟩ := raw_n J (.inr ⟨o, hd⟩)
    cases (raw_lock J hd).symm.trans g
    obtain ⟨rfl, rfl⟩ := dict_ep hod hdt
    obtain ⟨en, he, hk⟩ := ent i ks[i] (List.getElem?_eq_getElem hi)
    refine next_key_item st g hdt sz he fun h' st' sb => ?_
    have J1 : Inv Y pn σ H { s with heap := h' } := J.turned (t' := s.toks) (fun b ob hb e => (sb.2 b hb).trans e) f0 f1 f3 f4 f5
    obtain ⟨oi, e, c, dd⟩ := id st'
    exact ⟨en.key, rfl, go_of (s := { s with heap := h' }) e c dd (by decide) ⟨.ref _, H, J1, hk, ⟨rfl, _, List.getElem?_eq_getElem hi, rfl⟩, st', fun b hb => (fr b hb).1⟩⟩
  done := by
    rintro Y rfl rfl rfl calm i pn s σ H E J fr st ⟨hd, hi⟩
    obtain ⟨f0, f1, f2, f3, f4, f5⟩ := fr it (List.mem_singleton.mpr rfl)
    obtain ⟨lo, _, ob, es', ep', g, hx, hdt, sz, ent⟩ := raw_n J (.inr ⟨o, hd⟩)
    cases (raw_lock J hd).symm.trans g
    obtain ⟨rfl, rfl⟩ := dict_ep hod hdt
    exact next_key_end (J.ok.hd calm) st g hdt sz hi fun h' eb => ⟨rfl, J.turned (t' := s.toks) (fun b ob hb e => eb b ob hb e) f0 f1 f3 f4 f5⟩
  self := fun A i s Q E st h => wpAny_pyIter_keyiter st h
def iKeysN (P : Program) (w : World) (td : TE) : TI := fun σ H R => td σ H fun x H1 => ∃ a o ks, x = .ref a ∧ H1 a = some (.frz o (dNO P w a ks)) ∧ R (ItN P w a o ks) H1
theorem pi_keysN {X : Cx} {tg e : Expr} {td : TE} {P : Program} {w : World} (he : PE X e td) (hP : X.prog = P := by rfl) (hw : X.w = w := by rfl) : PI X tg e (iKeysN P w td) := ⟨fun pins s σ H R I h => by
  subst hP hw
  refine thn (he.run pins s σ H _ I h) fun u s1 ⟨x, H1, I1, rx, a, o, ks, ex, hd, q⟩ => ?_
  subst ex
  cases rx
  obtain ⟨lo, _, ob, es, ep, g, hx, hdt, sz, ent⟩ := raw_n I1 (.inr ⟨o, hd⟩)
  cases (raw_lock I1 hd).symm.trans g
  refine iter_keys lo g hx hdt (pi_one (tk := s1.toks) I1 _ (turn_n _ hdt) ⟨_, Heap.get?_push_size _ rfl, rfl, ?_⟩ q)
  rw [sz] <;> rfl⟩
theorem walk_n {P : Program} {w : World} {a : Addr} {o : Obj} {ks : List Ent} {n : Nat} (hn : ks.length = n) : Walk (ItN P w a o ks) n (fun H => H a = some (.frz o (dNO P w a ks))) (fun i H x H' => H' = H ∧ ∃ e, ks[i]? = some e ∧ x = .ref e.2.1) where
  goes := fun i _ hi h => ⟨h, hn ▸ hi⟩
  stops := fun _ h => ⟨h, Nat.le_of_eq hn⟩
  yields := fun i H v H' _ _ y => y
/-! ### list(d) -/
theorem call_listN {X : Cx} {P : Program} {w : World} (hc : X.calm = true) (hP : X.prog = P := by rfl) (hw : X.w = w := by rfl) : CallR X (.type "list") (fun xs H Q => ∃ a ks, xs = [V.ref a] ∧ Rd H a (dNO P w a ks) ∧ ∀ p, H p = none → Q (.ref p) (upd H p (.lst (ks.map fun e => V.ref e.2.1)))) := fun pins s σ H _ us Q J rs ⟨a, ks, e, hd, q⟩ => by
  subst hP hw
  subst e
  obtain ⟨u, eu, ru⟩ := Vals.one rs
  subst eu
  cases ru
  obtain ⟨lo, z, ob, es, ep, g, hx, hdt, sz, ent⟩ := raw_n J hd
  refine PySem.W.kdl_call (kdl_raw lo hx hdt) (J.ok.hd hc) g (by omega) fun h' tk acc' c' kp e it => ?_
  have ea : acc'.toList = (ks.map fun e => e.2.1).map Value.ref := by
    apply List.ext_getElem?
    intro j
    rw [List.map_map, List.getElem?_map]
    cases hj : acc'.toList[j]? with
    | none =>
      have h1 := List.getElem?_eq_none_iff.mp hj
      rw [Array.length_toList, it.1] at h1
      rw [List.getElem?_eq_none (by omega)]
      rfl
    | some v =>
      obtain ⟨en, hen, hv⟩ := it.2 j v (by rw [← Array.getElem?_toList]; exact hj)
      have hlt : j < ks.length := by
        have := (Array.getElem?_eq_some_iff.mp hen).1
        omega
      obtain ⟨en', h1, h2⟩ := ent j ks[j] (List.getElem?_eq_getElem hlt)
      rw [hen] at h1
      cases h1
      rw [List.getElem?_eq_getElem hlt, hv, h2]
      rfl
  have rv : Vals ((ks.map fun e => e.2.1).map V.ref) acc'.toList := by rw [ea]; exact vals_refs _
  rw [List.map_map] at rv
  have rv' : Vals (ks.map fun y : Ent => V.ref y.2.1) acc'.toList := rv
  have hz : (ks.map fun y : Ent => V.ref y.2.1).length ≤ sizeLine := by rw [List.length_map]; omega
  exact ⟨.ref s.heap.objs.size, _, J.laid (t' := tk) (o := .lst (ks.map fun y : Ent => V.ref y.2.1)) kp (Nat.le_refl _) ⟨hz, acc'.toList, c', rv', by rw [Array.toArray_toList]; exact e⟩, rfl, q _ (J.hok.fresh (Nat.le_refl _))⟩
end Sl

set_option Elab.async false
set_option linter.all false
set_option maxRecDepth 100000
set_option maxHeartbeats 4000000
/-! sorted(x) of data that never change: x a list of them, or a dict keyed by them. -/
namespace Sl
open PySem PySem.Spec PyProof.Rows L2 PySem.Calls
open PySem.W (EachIs dataLe AllAlike Sortable)
abbrev VD := V × PyData
def srt (bs : List VD) : List VD := bs.mergeSort (dataLe false fun b : VD => b.2)
/-- what can be put in order -/
structure SortOk (bs : List VD) : Prop where
  alike : AllAlike (bs.map (·.2))
  tup : Sortable (bs.map (·.2))
  deep : ∀ b ∈ bs, b.2.depth ≤ 8
  size : bs.length ≤ sizeLine
theorem each_rel : ∀ {bs : List VD} {vs : List Value}, Vals (bs.map (·.1)) vs → EachIs (fun v b => RelV b.1 v) vs bs
  | [], _, r => by
    cases r
    exact .nil
  | b :: bs, _, r => by
    cases r with
    | cons h t => exact .cons h (each_rel t)
theorem rel_each : ∀ {bs : List VD} {vs : List Value}, EachIs (fun v b => RelV b.1 v) vs bs → Vals (bs.map (·.1)) vs
  | _, _, .nil => .nil
  | _, _, .cons h t => .cons h (rel_each t)
section
variable {X : Cx} {pins : List (Addr × Obj)} {σ : L2.St} {H : Hp} {s : Shared}
theorem each_reads (J : Inv X pins σ H s) : ∀ {bs : List VD} {vs : List Value}, (∀ b ∈ bs, Im H b.1 b.2) → EachIs (fun v b => RelV b.1 v) vs bs → EachIs (fun v b => ∃ as, PySem.Reads s.heap v b.2 as) vs bs
  | _, _, _, .nil => .nil
  | _, _, h, .cons r t => .cons (Dp.reads J _ _ _ (h _ (List.mem_cons_self ..)).dp r) (each_reads J (fun b hb => h b (List.mem_cons_of_mem _ hb)) t)
/-- sorted(a list) -/
def rSortedD (K : PySem.W.Frag) : List V → Hp → VK → Prop := fun xs H Q => ∃ (a : Addr) (bs : List VD), xs = [.ref a] ∧ (SqL K H a (bs.map (·.1)) ∧ ∀ b ∈ bs, Im H b.1 b.2) ∧ SortOk bs ∧ ∀ p, H p = none → Q (.ref p) (upd H p (.lst ((srt bs).map (·.1))))
theorem srt_len (bs : List VD) : (srt bs).length = bs.length := (List.mergeSort_perm _ _).length_eq
theorem call_sortedD (hu : X.A.units + 10 < cLine) : CallR X (.builtin "sorted") (rSortedD X.K) := fun pins s σ H _ us Q J rs ⟨a, bs, e, ⟨hl, hi⟩, ok, q⟩ => by
  subst e
  rw [Vals.ref1 rs]
  obtain ⟨vs, rv, pl, hz⟩ := J.list hl
  have er := each_rel rv
  refine PySem.W.sorted_data (bs := bs) (enc := fun b : VD => b.2) (R := fun v b => RelV b.1 v) pl.isList er (each_reads J hi er) ok.alike ok.tup ok.size (fun b hb => by have := ok.deep b hb; omega) fun out ho eo => ?_
  obtain ⟨ep, he⟩ := PyProof.Rows.sortedAll_at s.heap vs out.toArray
  exact ⟨.ref _, upd H (s.heap.objs.size + 1) (.lst ((srt bs).map (·.1))), J.laid (t' := s.toks) (fun _ _ => PyProof.Rows.sortedAll_old) (Nat.le_succ _) ⟨by rw [List.length_map, srt_len]; exact ok.size, out, ep, rel_each eo, he⟩, rfl, q _ (J.hok.fresh (Nat.le_succ _))⟩
/-- sorted(a dict): its keys -/
def rSortedN (P : Program) (w : World) : List V → Hp → VK → Prop := fun xs H Q => ∃ (a : Addr) (ks : List Ent), xs = [.ref a] ∧ DR P w H a ks ∧ SortOk (ks.map fun e => (V.ref e.2.1, e.1.data)) ∧
  ∀ p, H p = none → Q (.ref p) (upd H p (.lst ((srt (ks.map fun e => (V.ref e.2.1, e.1.data))).map (·.1))))
theorem call_sortedN {P : Program} {w : World} (hc : X.calm = true) (hu : X.A.units + 10 < cLine) (hP : X.prog = P := by rfl) (hw : X.w = w := by rfl) : CallR X (.builtin "sorted") (rSortedN P w) := fun pins s σ H _ us Q J rs ⟨a, ks, e, d, ok, q⟩ => by
  subst hP hw
  subst e
  rw [Vals.ref1 rs]
  obtain ⟨lo, z, ob, es, ep, g, hx, hdt, sz, ent⟩ := raw_n J d.at_
  refine call_function_entry kind_sorted plain_sorted
    entry_sorted (args_sorted1 _) ?_
  unfold Builtin.«sorted»
  refine wpAny_bind
    (m := checkCount "sorted" 1 1 _) (wpAny_pure ?_)
  refine wpAny_bind (PySem.W.kdu_collect (A := X.A.in1) (kdl_raw lo hx hdt) (J.ok.hd hc) g (by omega) fun h' tk acc kp it => ?_)
  have J1 : Inv X pins σ H { s with heap := h', toks := tk } := J.kept (t' := tk) kp
  have ea : acc.toList = ks.map fun e => Value.ref e.2.1 := by
    apply List.ext_getElem?
    intro j
    rw [List.getElem?_map]
    rcases Nat.lt_or_ge j ks.length with lt | ge
    · obtain ⟨en, h1, h2⟩ := ent j ks[j] (List.getElem?_eq_getElem lt)
      have hj : j < acc.toList.length := by rw [Array.length_toList, it.1]; omega
      obtain ⟨en', h3, h4⟩ := it.2 j acc.toList[j] (by rw [← Array.getElem?_toList]; exact List.getElem?_eq_getElem hj)
      rw [h1] at h3
      cases h3
      rw [List.getElem?_eq_getElem hj, List.getElem?_eq_getElem lt, h4, h2]
      rfl
    · rw [List.getElem?_eq_none (by rw [Array.length_toList, it.1]; omega), List.getElem?_eq_none ge]
      rfl
  let bs : List VD := ks.map fun e => (V.ref e.2.1, e.1.data)
  have er : EachIs (fun v b => RelV b.1 v) acc.toList bs := by
    rw [ea]
    show EachIs _ (ks.map _) (ks.map _)
    clear_value bs
    clear ent it ea ok q d sz z bs
    induction ks with
    | nil => exact .nil
    | cons k ks ih => exact .cons rfl ih
  have him : ∀ b ∈ bs, Im H b.1 b.2 := fun b hb => by
    obtain ⟨e, he, rfl⟩ := List.mem_map.mp hb
    exact (d.keys e he).1
  have hlen : acc.toList.length ≤ sizeLine := by rw [ea, List.length_map]; exact z
  refine wpAny_bind (wpAny_newList ?_ hlen)
  have hL : (h'.push (seqObj "list" acc.toList.toArray 0)).get? h'.objs.size = some (seqObj "list" acc.toList.toArray 0) := Heap.get?_push_size _ rfl
  have er2 : EachIs (fun v b => ∃ as, PySem.Reads (PySem.W.sortingHeap (h'.push (seqObj "list" acc.toList.toArray 0)) h'.objs.size acc.toList) v b.2 as) acc.toList bs :=
    (each_reads J1 him er).mono fun v b ⟨as, r⟩ => ⟨as, PyProof.Rows.Reads.keeps (fun b o e => PySem.W.sortingHeap_old (Nat.ne_of_lt (Heap.lt_size e)) (Heap.get?_push_of_some _ e)) r⟩
  show wpAny (model X.prog X.w) X.A.in1 _ _ _ { s with heap := h'.push (seqObj "list" acc.toList.toArray 0), toks := tk }
  have S := PySem.W.SortsAt.data (prog := X.prog) (w := X.w) (A := X.A.in1.in1) (s := { s with heap := PySem.W.sortingHeap (h'.push (seqObj "list" acc.toList.toArray 0)) h'.objs.size acc.toList, toks := tk })
    (PySem.W.each_map (R := fun v d => ∃ as, PySem.Reads _ v d as) (fun b : VD => b.2) er2) ok.alike ok.tup (PySem.W.bound_map (bs := bs) fun b hb => by have := ok.deep b hb; rw [Around.in1_units, Around.in1_units]; omega)
  refine wpAny_bind (wpAny_holding (wpAny_call_entry slot_list_sort ⟨_, hL, rfl⟩ entry_list_sort ?_ (args_list_sort _)))
  refine PySem.W.list_sort_vals (κ := PySem.W.dataKind (PySem.W.sortingHeap (h'.push (seqObj "list" acc.toList.toArray 0)) h'.objs.size acc.toList) (bs.map fun b : VD => b.2)) (s := { s with heap := h'.push (seqObj "list" acc.toList.toArray 0), toks := tk }) hL S hlen ?_
  have eo := PySem.W.sortVals_data (enc := fun b : VD => b.2) false er er2 ok.alike
  refine ⟨.none, rfl, wpAny_pure ⟨_, rfl, ?_⟩⟩
  obtain ⟨ep2, he2⟩ := PyProof.Rows.sortedHeap_at (vs := acc.toList) (out := (PySem.W.sortVals (PySem.W.dataKind (PySem.W.sortingHeap (h'.push (seqObj "list" acc.toList.toArray 0)) h'.objs.size acc.toList) (bs.map fun b : VD => b.2)) false acc.toList acc.toList).toArray) hL
  refine ⟨.ref h'.objs.size, upd H h'.objs.size (.lst ((srt bs).map (·.1))), J1.laid (t' := tk) (fun b o e => ?_) (Nat.le_refl _) ⟨by rw [List.length_map, srt_len]; exact ok.size, _, ep2, rel_each eo, he2⟩, rfl, q _ (J1.hok.fresh (Nat.le_refl _))⟩
  have hlt := Heap.lt_size e
  exact (PyProof.Rows.sortedHeap_old (Nat.ne_of_lt hlt) (by rw [size_push']; exact Nat.lt_succ_of_lt hlt)).trans (Heap.get?_push_of_some _ e)
end
end Sl

set_option Elab.async false
set_option linter.all false
set_option maxRecDepth 100000
set_option maxHeartbeats 4000000
/-! Two lists of the same keys, put in order, are one list. -/
namespace Sl
open PySem PySem.Spec PyProof.Rows L2
open PySem.W (EachIs dataLe AllAlike Sortable)
mutual
theorem eqv_key : ∀ a b : NestedKey, PyData.eqv a.data b.data = NestedKey.beq a b
  | .none, .none => rfl
  | .none, .num _ => rfl
  | .none, .text _ => rfl
  | .none, .tup _ => rfl
  | .num _, .none => rfl
  | .num a, .num b => rfl
  | .num _, .text _ => rfl
  | .num _, .tup _ => rfl
  | .text _, .none => rfl
  | .text _, .num _ => rfl
  | .text a, .text b => rfl
  | .text _, .tup _ => rfl
  | .tup _, .none => rfl
  | .tup _, .num _ => rfl
  | .tup _, .text _ => rfl
  | .tup a, .tup b => by
    simp only [NestedKey.data, PyData.eqv, NestedKey.beq]
    exact eqv_keys a b
theorem eqv_keys : ∀ a b : List NestedKey, PyData.eqvAll (NestedKey.datas a) (NestedKey.datas b) = NestedKey.beqAll a b
  | [], [] => rfl
  | [], _ :: _ => rfl
  | _ :: _, [] => rfl
  | a :: as, b :: bs => by
    simp only [NestedKey.datas, PyData.eqvAll, NestedKey.beqAll]
    rw [eqv_key a b, eqv_keys as bs]
end
theorem key_of_toks {a b : NestedKey} (al : PySem.W.alike a.data b.data = true) (e : PySem.W.keyToks a.data = PySem.W.keyToks b.data) : a = b := by
  cases h : PyData.eqv a.data b.data with
  | true =>
    rw [eqv_key] at h
    exact NestedKey.eq_of_beq a b h
  | false =>
    have z := (PySem.W.toks_eqv a.data b.data al).2 h [] [Sum.inl 0]
    rw [e, PySem.W.lex_pre] at z
    have z2 := PySem.W.lex_pre (PySem.W.keyToks b.data) [] []
    rw [List.append_nil] at z2
    rw [z2] at z
    cases z
/-- the data of the sorted list, by the keys alone -/
theorem srt_data (bs : List VD) : (srt bs).map (·.2) = (bs.map (·.2)).mergeSort (dataLe false id) := List.map_mergeSort fun _ _ _ _ => rfl
theorem srt_same {bs bs' : List VD} {ks ks' : List NestedKey} (h : bs.map (·.2) = ks.map NestedKey.data) (h' : bs'.map (·.2) = ks'.map NestedKey.data) (p : ks.Perm ks') (al : AllAlike (ks.map NestedKey.data)) : (srt bs).map (·.2) = (srt bs').map (·.2) := by
  have T := PySem.W.sortLe_total (PyProof.Rows.listOrd PyProof.Rows.itemOrd) false (fun d : PyData => PySem.W.keyToks d)
  rw [srt_data, srt_data, h, h']
  refine List.Perm.eq_of_pairwise (le := fun a b => dataLe false id a b = true) (fun a b ha hb h1 h2 => ?_) (PySem.W.sort_pairwise T _) (PySem.W.sort_pairwise T _) (((List.mergeSort_perm _ _).trans (p.map _)).trans (List.mergeSort_perm _ _).symm)
  have ha' := (List.mergeSort_perm _ _).mem_iff.mp ha
  have hb' := (p.map NestedKey.data).symm.mem_iff.mp ((List.mergeSort_perm _ _).mem_iff.mp hb)
  have al2 := al a ha' b hb'
  obtain ⟨x, _, rfl⟩ := List.mem_map.mp ha'
  obtain ⟨y, _, rfl⟩ := List.mem_map.mp hb'
  have e := (PyProof.Rows.listOrd PyProof.Rows.itemOrd).total (PySem.W.keyToks x.data) (PySem.W.keyToks y.data) (by simpa [dataLe, PySem.W.sortLe] using h2) (by simpa [dataLe, PySem.W.sortLe] using h1)
  rw [key_of_toks al2 e]
end Sl

set_option Elab.async false
set_option linter.all false
set_option maxRecDepth 100000
set_option maxHeartbeats 4000000
namespace Slx
open PySem PySem.Spec PyProof.Rows L2 Sl
theorem hu9 {A : Around} {k : Nat} (hr : Room k A) : A.units + 9 < cLine := Nat.lt_of_le_of_lt (by omega : A.units + 9 ≤ A.units + 16 * k + 200) hr.un
theorem hu10 {A : Around} {k : Nat} (hr : Room k A) : A.units + 10 < cLine := Nat.lt_of_le_of_lt (by omega : A.units + 10 ≤ A.units + 16 * k + 200) hr.un
/-! ### a stand as a key -/
def kSp : Spot → NestedKey
  | .lane p => .tup [.text "lane", .num p]
  | .side p => .tup [.text "side", .num p]
  | .out => .tup [.text "out"]
def kSt (S : Stand) : NestedKey := .tup (S.map kSp)
theorem kSp_data (s : Spot) : (kSp s).data = dS s := by cases s <;> rfl
theorem kSps_data : ∀ S : Stand, NestedKey.datas (S.map kSp) = S.map dS
  | [] => rfl
  | s :: S => by
    rw [List.map_cons, List.map_cons, NestedKey.datas, kSp_data, kSps_data S]
theorem kSt_data (S : Stand) : (kSt S).data = dSt S := by
  rw [kSt, NestedKey.data, kSps_data]
  rfl
theorem kSp_depth (s : Spot) : (kSp s).depth = 1 := by cases s <;> rfl
theorem kSps_depth : ∀ S : Stand, NestedKey.depthAll (S.map kSp) ≤ 1
  | [] => Nat.zero_le _
  | s :: S => by
    rw [List.map_cons, NestedKey.depthAll, kSp_depth]
    exact Nat.max_le.mpr ⟨Nat.le_refl _, kSps_depth S⟩
theorem kSt_depth (S : Stand) : (kSt S).depth ≤ 8 := by
  have := kSps_depth S
  rw [kSt, NestedKey.depth]
  omega
theorem kSp_inj {s t : Spot} (e : kSp s = kSp t) : s = t := by
  have z := eqv_spot s t
  rw [← kSp_data, ← kSp_data, e, eqv_key, NestedKey.beq_self] at z
  exact of_decide_eq_true z.symm
theorem kSps_inj : ∀ {S T : Stand}, S.map kSp = T.map kSp → S = T
  | [], [], _ => rfl
  | [], _ :: _, e => by simp at e
  | _ :: _, [], e => by simp at e
  | s :: S, t :: T, e => by
    rw [List.map_cons, List.map_cons] at e
    injection e with e1 e2
    rw [kSp_inj e1, kSps_inj e2]
theorem kSt_inj {S T : Stand} (e : kSt S = kSt T) : S = T := by
  unfold kSt at e
  injection e with e
  exact kSps_inj e
theorem StandAt.key {H : Hp} {a : Addr} {S : Stand} (h : StandAt H a S) : KeyAt H a (kSt S) := ⟨by
  rw [kSt_data]
  exact h.im, kSt_depth S⟩
theorem KeyAt.stand {H : Hp} {a : Addr} {S : Stand} (h : KeyAt H a (kSt S)) : StandAt H a S := by
  have z := h.1
  rw [kSt_data] at z
  cases z with
  | tup e i => exact ⟨_, e, i⟩
theorem im_standAt {H : Hp} {v : V} {S : Stand} (h : Im H v (dSt S)) : ∃ a, v = .ref a ∧ StandAt H a S := by
  cases h with
  | tup e i => exact ⟨_, rfl, _, e, i⟩
/-! ### a dict of stands -/
/-- the entries stand for these stands, in their order -/
def Of (ks : List Ent) (L : List Stand) : Prop := ks.map (·.1) = L.map kSt
theorem Of.len {ks : List Ent} {L : List Stand} (h : Of ks L) : ks.length = L.length := by
  have := congrArg List.length h
  simpa using this
theorem val_none {ks : List Ent} {k : NestedKey} : valN ks k = none ↔ k ∉ ks.map (·.1) := by
  unfold valN
  induction ks with
  | nil => simp
  | cons x ks ih =>
    rw [List.find?_cons]
    by_cases e : x.1 = k
    · simp [e]
    · simp only [decide_eq_false e, List.map_cons, List.mem_cons, not_or]
      rw [ih]
      exact ⟨fun h => ⟨fun z => e z.symm, h⟩, fun h => h.2⟩
theorem Of.mem {ks : List Ent} {L : List Stand} (h : Of ks L) (S : Stand) : (valN ks (kSt S)).isSome = decide (S ∈ L) := by
  have e : valN ks (kSt S) = none ↔ S ∉ L := by
    rw [val_none, h]
    refine not_congr ⟨fun q => ?_, fun q => List.mem_map_of_mem q⟩
    obtain ⟨T, hT, e⟩ := List.mem_map.mp q
    rw [← kSt_inj e]
    exact hT
  by_cases hS : S ∈ L
  · rw [decide_eq_true hS]
    cases q : valN ks (kSt S) with
    | none => exact absurd hS (e.mp q)
    | some _ => rfl
  · rw [decide_eq_false hS, e.mpr hS]
    rfl
theorem put_new {ks : List Ent} {k : NestedKey} {b : Addr} {v : V} (h : (valN ks k).isSome = false) : putN ks k b v = ks ++ [(k, b, v)] := by
  unfold putN
  rw [h]
  rfl
theorem Of.put {ks : List Ent} {L : List Stand} (h : Of ks L) {S : Stand} (n : S ∉ L) (b : Addr) (v : V) : Of (putN ks (kSt S) b v) (L ++ [S]) := by
  rw [put_new (by rw [h.mem, decide_eq_false n])]
  unfold Of at *
  rw [List.map_append, List.map_append, h]
  rfl
theorem keys_im {H : Hp} {ks : List Ent} {L : List Stand} (of : Of ks L) (k : ∀ x ∈ ks, KeyAt H x.2.1 x.1) : ImAll H (ks.map fun e => V.ref e.2.1) (L.map dSt) := by
  refine ImAll.of (by rw [List.length_map, List.length_map, of.len]) fun i v d hv hd => ?_
  rw [List.getElem?_map] at hv hd
  cases e1 : ks[i]? with
  | none => rw [e1] at hv; cases hv
  | some e =>
    rw [e1] at hv
    cases hv
    have z := congrArg (·[i]?) of
    simp only [List.getElem?_map, e1, Option.map_some] at z
    cases e2 : L[i]? with
    | none => rw [e2] at z; cases z
    | some T =>
      rw [e2] at z hd
      cases hd
      have ek : e.1 = kSt T := Option.some.inj z
      have h := (k e (mem_of_some e1)).1
      rw [ek, kSt_data] at h
      exact h
/-! ### lists of stands -/
theorem canLay_stands : ∀ L : List Stand, PyData.canLayAll0 (L.map dSt) = true
  | [] => rfl
  | S :: L => by
    show (PyData.canLay0 (dSt S) && PyData.canLayAll0 (L.map dSt)) = true
    rw [canLay_stands L, show PyData.canLay0 (dSt S) = true from SeqAt.canLay_of_shaped (shaped_stand S)]
    rfl
theorem depth_stands : ∀ L : List Stand, PyData.depthAll (L.map dSt) ≤ 3
  | [] => by show 0 ≤ 3; omega
  | S :: L => by
    have h := depth_stands L
    have h2 := depth_spots S
    show max (PyData.depth (dSt S)) (PyData.depthAll (L.map dSt)) ≤ 3
    have h1 : PyData.depth (dSt S) ≤ 3 := by simp only [dSt, PyData.depth]; omega
    omega
theorem shaped_stands (L : List Stand) : SeqAt.shaped (.list (L.map dSt)) = true := by
  unfold SeqAt.shaped
  rw [show PyData.canLay0 (.list (L.map dSt)) = true from canLay_stands L]
  have := depth_stands L
  have h : PyData.depth (.list (L.map dSt)) ≤ 64 := by
    simp only [PyData.depth]; omega
  rw [decide_eq_true h]
  rfl
theorem eqv_noneS (L : List Stand) : PyData.eqv (.list (L.map dSt)) (.list []) = L.isEmpty := by cases L <;> rfl
theorem _root_.Sl.DN.lst {P : Program} {w : World} {H : Hp} {d a : Addr} {ks : List Ent} {xs ys : List V} (x : DN P w H d ks) (h : H a = some (.lst xs)) : DN P w (upd H a (.lst ys)) d ks := ⟨by
  rw [upd_ne (fun e => by subst e; rw [x.at_] at h; cases h)]
  exact x.at_, fun y hy => (x.keys y hy).mono (Ti.lst h)⟩
end Slx

/-! The mathematics of prices: rows, the price of a stand by the stands behind it. -/
set_option autoImplicit false
namespace Sl
def allOut (S : Stand) : Bool := S.all fun s => decide (s = .out)
/-- the least of those that are there -/
def least : List (Option Nat) → Option Nat
  | [] => none
  | none :: l => least l
  | some n :: l => match least l with
    | none => some n
    | some m => some (min n m)
theorem least_none {l : List (Option Nat)} : least l = none ↔ ∀ x ∈ l, x = none := by
  induction l with
  | nil => simp [least]
  | cons x l ih =>
    cases x with
    | none => simp [least, ih]
    | some n =>
      simp only [least]
      cases least l <;> simp
theorem least_some {l : List (Option Nat)} {n : Nat} : least l = some n ↔ (some n ∈ l ∧ ∀ m, some m ∈ l → n ≤ m) := by
  induction l generalizing n with
  | nil => simp [least]
  | cons x l ih =>
    cases x with
    | none => simp [least, ih]
    | some k =>
      simp only [least]
      cases h : least l with
      | none =>
        have hn := least_none.mp h
        simp only [Option.some.injEq, List.mem_cons]
        constructor
        · rintro rfl
          refine ⟨.inl rfl, fun m hm => ?_⟩
          rcases hm with e | e
          · omega
          · exact absurd (hn _ e) (by simp)
        · rintro ⟨h1, _⟩
          rcases h1 with e | e
          · omega
          · exact absurd (hn _ e) (by simp)
      | some m =>
        obtain ⟨h1, h2⟩ := ih.mp h
        simp only [Option.some.injEq, List.mem_cons]
        constructor
        · rintro rfl
          refine ⟨?_, fun j hj => ?_⟩
          · rcases Nat.le_total k m with a | a
            · exact .inl (by omega)
            · refine .inr ?_
              rw [Nat.min_eq_right a]
              exact h1
          · rcases hj with e | e
            · omega
            · have := h2 _ e
              omega
        · rintro ⟨a1, a2⟩
          have b1 := a2 k (.inl rfl)
          have b2 := a2 m (.inr h1)
          rcases a1 with e | e
          · omega
          · have := h2 _ e
            omega
def priceF (ln : List Int) (wy : List Bool) : Nat → Stand → Option Nat
  | 0, S => if allOut S then some 0 else none
  | f + 1, S => if allOut S then some 0 else (least ((behinds ln wy S).map (priceF ln wy f))).map (· + 1)
/-- the price of a stand: no row has more than 96 moves -/
def priceOf (ln : List Int) (wy : List Bool) (S : Stand) : Option Nat := priceF ln wy 96 S
theorem weigh_behinds {ln : List Int} {wy : List Bool} {S T : Stand} (o : OkStand ln wy S) (h : T ∈ behinds ln wy S) : weigh ln wy T + 1 ≤ weigh ln wy S := by
  obtain ⟨c, hc, rfl⟩ := List.mem_map.mp h
  obtain ⟨k, _, hk⟩ := mem_pairs.mp hc
  have e := (mem_choices hk).1
  rw [e]
  exact step_weigh o hk
theorem priceF_same {ln : List Int} {wy : List Bool} : ∀ (f g : Nat) {S : Stand}, OkStand ln wy S → weigh ln wy S ≤ f → weigh ln wy S ≤ g → priceF ln wy f S = priceF ln wy g S
  | f, g, S, o, hf, hg => by
    have none_left : weigh ln wy S ≤ 0 → behinds ln wy S = [] := fun h0 => by
      cases hb : behinds ln wy S with
      | nil => rfl
      | cons T l =>
        have hT : T ∈ behinds ln wy S := by rw [hb]; simp
        have h1 := weigh_behinds o hT
        have h2 := (weigh_least (behinds_ok o hT).1).1
        omega
    have zero : ∀ k, weigh ln wy S ≤ 0 → priceF ln wy k S = if allOut S then some 0 else none := fun k h0 => by
      cases k with
      | zero => rfl
      | succ k =>
        simp only [priceF, none_left h0, List.map_nil, least, Option.map_none]
    match f, g with
    | 0, g => rw [zero 0 hf, zero g hf]
    | f + 1, 0 => rw [zero 0 hg, zero (f + 1) hg]
    | f + 1, g + 1 =>
      simp only [priceF]
      have e : (behinds ln wy S).map (priceF ln wy f) = (behinds ln wy S).map (priceF ln wy g) := by
        refine List.map_congr_left fun T hT => ?_
        have h1 := weigh_behinds o hT
        exact priceF_same f g (behinds_ok o hT).1 (by omega) (by omega)
      rw [e]
/-- the price, by those behind one move -/
theorem price_eq {ln : List Int} {wy : List Bool} {S : Stand} (o : OkStand ln wy S) : priceOf ln wy S = if allOut S then some 0 else (least ((behinds ln wy S).map (priceOf ln wy))).map (· + 1) := by
  show priceF ln wy 96 S = _
  rw [show priceF ln wy 96 S = if allOut S then some 0 else (least ((behinds ln wy S).map (priceF ln wy 95))).map (· + 1) from rfl]
  have e : (behinds ln wy S).map (priceF ln wy 95) = (behinds ln wy S).map (priceOf ln wy) := by
    refine List.map_congr_left fun T hT => ?_
    have h1 := weigh_behinds o hT
    have h2 := (weigh_least o).2
    exact priceF_same 95 96 (behinds_ok o hT).1 (by omega) (by omega)
  rw [e]
/-! ### rows -/
/-- n moves bring all through -/
inductive Through (ln : List Int) (wy : List Bool) : Stand → Nat → Prop
  | out {S : Stand} : allOut S = true → Through ln wy S 0
  | on {S T : Stand} {n : Nat} : T ∈ behinds ln wy S → Through ln wy T n → Through ln wy S (n + 1)
theorem allOut_no {ln : List Int} {wy : List Bool} {S : Stand} (h : allOut S = true) : behinds ln wy S = [] := by
  cases hb : behinds ln wy S with
  | nil => rfl
  | cons T l =>
    have hT : T ∈ behinds ln wy S := by rw [hb]; simp
    obtain ⟨c, hc, _⟩ := List.mem_map.mp hT
    obtain ⟨k, hk, hck⟩ := mem_pairs.mp hc
    have hx : S[k]? = some (S.getD k .out) := getD_lt hk
    have ho : S.getD k .out = .out := by
      have := List.all_eq_true.mp h _ (mem_of_some hx)
      simpa using this
    unfold choices at hck
    rw [ho] at hck
    simp at hck
/-- the price is what the shortest row has -/
theorem price_through {ln : List Int} {wy : List Bool} : ∀ (n : Nat) {S : Stand}, OkStand ln wy S → Through ln wy S n → ∃ m, priceOf ln wy S = some m ∧ m ≤ n
  | n, S, o, h => by
    rw [price_eq o]
    cases ha : allOut S with
    | true => exact ⟨0, by simp, Nat.zero_le _⟩
    | false =>
      cases h with
      | out hh => rw [hh] at ha; cases ha
      | @on _ T k hT ht =>
        obtain ⟨m, hm, hk⟩ := price_through k (behinds_ok o hT).1 ht
        have hin : some m ∈ (behinds ln wy S).map (priceOf ln wy) := by
          rw [← hm]
          exact List.mem_map_of_mem hT
        cases hl : least ((behinds ln wy S).map (priceOf ln wy)) with
        | none => exact absurd (least_none.mp hl _ hin) (by simp)
        | some j =>
          have := (least_some.mp hl).2 m hin
          exact ⟨j + 1, by simp, by omega⟩
theorem through_price {ln : List Int} {wy : List Bool} : ∀ (f : Nat) {S : Stand} {n : Nat}, OkStand ln wy S → weigh ln wy S ≤ f → priceOf ln wy S = some n → Through ln wy S n
  | f, S, n, o, hf, h => by
    rw [price_eq o] at h
    cases ha : allOut S with
    | true =>
      rw [ha] at h
      simp at h
      subst h
      exact .out ha
    | false =>
      rw [ha] at h
      simp only [Bool.false_eq_true, if_false] at h
      cases hl : least ((behinds ln wy S).map (priceOf ln wy)) with
      | none => rw [hl] at h; cases h
      | some j =>
        rw [hl] at h
        simp at h
        subst h
        obtain ⟨h1, _⟩ := least_some.mp hl
        obtain ⟨T, hT, e⟩ := List.mem_map.mp h1
        have hw := weigh_behinds o hT
        have h0 := (weigh_least (behinds_ok o hT).1).1
        match f with
        | 0 => omega
        | f + 1 => exact .on hT (through_price f (behinds_ok o hT).1 (by omega) e)
theorem through_of {ln : List Int} {wy : List Bool} {S : Stand} {n : Nat} (o : OkStand ln wy S) (h : priceOf ln wy S = some n) : Through ln wy S n := through_price 96 o (weigh_least o).2 h
/-- no price: no row at all -/
theorem shut {ln : List Int} {wy : List Bool} {S : Stand} (o : OkStand ln wy S) : priceOf ln wy S = none ↔ ∀ n, ¬ Through ln wy S n := by
  constructor
  · intro h n t
    obtain ⟨m, hm, _⟩ := price_through n o t
    rw [h] at hm
    cases hm
  · intro h
    cases e : priceOf ln wy S with
    | none => rfl
    | some n => exact absurd (through_of o e) (h n)
/-- what is behind a shut stand is shut -/
theorem shut_behind {ln : List Int} {wy : List Bool} {S T : Stand} (o : OkStand ln wy S) (h : priceOf ln wy S = none) (hT : T ∈ behinds ln wy S) : priceOf ln wy T = none :=
  (shut (behinds_ok o hT).1).mpr fun n t => (shut o).mp h (n + 1) (.on hT t)
theorem shut_reach {ln : List Int} {wy : List Bool} {S T : Stand} (o : OkStand ln wy S) (h : priceOf ln wy S = none) (r : Reach ln wy S T) : priceOf ln wy T = none := by
  induction r with
  | here => exact h
  | on r hU ih => exact shut_behind (r.ok o).1 ih hU
theorem shut_notOut {ln : List Int} {wy : List Bool} {S : Stand} (o : OkStand ln wy S) (h : priceOf ln wy S = none) : allOut S = false := by
  cases e : allOut S with
  | false => rfl
  | true => exact absurd (Through.out e) ((shut o).mp h 0)
end Sl

/-! The mathematics of rows: the stand behind a move, behind a row. -/
set_option autoImplicit false
namespace Sl
theorem choices_moves (ln : List Int) (wy : List Bool) (S : Stand) (k : Nat) : ((choices ln wy S k).map (·.1)).Nodup := by
  unfold choices
  split
  · simp
  · split <;> split <;> simp
  · split <;> simp
theorem flat_nodup {α β : Type} (f : Nat → List α) (g : α → β) (no : β → Nat) (h1 : ∀ k, ((f k).map g).Nodup) (h2 : ∀ k, ∀ x ∈ f k, no (g x) = k) : ∀ l : List Nat, l.Nodup → ((l.flatMap f).map g).Nodup
  | [], _ => by simp
  | k :: l, nd => by
    obtain ⟨n1, n2⟩ := List.nodup_cons.mp nd
    rw [List.flatMap_cons, List.map_append, List.nodup_append]
    refine ⟨h1 k, flat_nodup f g no h1 h2 l n2, fun a ha b hb e => ?_⟩
    obtain ⟨x, hx, rfl⟩ := List.mem_map.mp ha
    obtain ⟨y, hy, rfl⟩ := List.mem_map.mp hb
    obtain ⟨j, hj, hyj⟩ := List.mem_flatMap.mp hy
    have e1 := h2 k x hx
    have e2 := h2 j y hyj
    rw [e] at e1
    exact n1 (by rw [← e1, e2]; exact hj)
theorem moves_nodup (ln : List Int) (wy : List Bool) (S : Stand) : ((allPairs ln wy S).map (·.1)).Nodup :=
  flat_nodup (fun k => choices ln wy S k) (fun c : Mv × Spot => c.1) (fun m : Mv => m.2) (choices_moves ln wy S) (fun k c hc => by
    obtain ⟨m, s⟩ := c
    exact (mem_choices hc).1) _ List.nodup_range
/-- the stand behind a move, where it is allowed -/
def behindMv (ln : List Int) (wy : List Bool) (S : Stand) (m : Mv) : Option Stand := ((allPairs ln wy S).find? fun c => decide (c.1 = m)).map fun c => S.set c.1.2 c.2
theorem find_key {α β : Type} [DecidableEq β] {g : α → β} : ∀ {l : List α} {x : α}, (l.map g).Nodup → x ∈ l → l.find? (fun y => decide (g y = g x)) = some x
  | [], _, _, h => by simp at h
  | y :: l, x, nd, h => by
    rw [List.map_cons, List.nodup_cons] at nd
    rw [List.find?_cons]
    rcases List.mem_cons.mp h with e | h
    · subst e
      simp
    · have ne : ¬ g y = g x := fun e => nd.1 (by rw [e]; exact List.mem_map_of_mem h)
      simp only [decide_eq_false ne]
      exact find_key nd.2 h
theorem behindMv_of {ln : List Int} {wy : List Bool} {S : Stand} {c : Mv × Spot} (h : c ∈ allPairs ln wy S) : behindMv ln wy S c.1 = some (S.set c.1.2 c.2) := by
  unfold behindMv
  rw [find_key (g := fun c : Mv × Spot => c.1) (moves_nodup ln wy S) h]
  rfl
theorem behindMv_some {ln : List Int} {wy : List Bool} {S T : Stand} {m : Mv} (h : behindMv ln wy S m = some T) : ∃ s, (m, s) ∈ allPairs ln wy S ∧ T = S.set m.2 s := by
  unfold behindMv at h
  obtain ⟨c, hc, rfl⟩ := Option.map_eq_some_iff.mp h
  have h1 := List.mem_of_find?_eq_some hc
  have h2 : c.1 = m := by simpa using List.find?_some hc
  subst h2
  exact ⟨c.2, h1, rfl⟩
theorem behindMv_mem {ln : List Int} {wy : List Bool} {S T : Stand} {m : Mv} (h : behindMv ln wy S m = some T) : T ∈ behinds ln wy S := by
  obtain ⟨s, hs, rfl⟩ := behindMv_some h
  exact List.mem_map.mpr ⟨(m, s), hs, rfl⟩
theorem mem_behindMv {ln : List Int} {wy : List Bool} {S T : Stand} (h : T ∈ behinds ln wy S) : ∃ m, behindMv ln wy S m = some T := by
  obtain ⟨c, hc, rfl⟩ := List.mem_map.mp h
  exact ⟨c.1, behindMv_of hc⟩
/-- the stand behind a row -/
def rowEnd (ln : List Int) (wy : List Bool) : Stand → List Mv → Option Stand
  | S, [] => some S
  | S, m :: r => match behindMv ln wy S m with
    | none => none
    | some T => rowEnd ln wy T r
theorem rowEnd_snoc {ln : List Int} {wy : List Bool} {m : Mv} : ∀ {r : List Mv} {S T : Stand}, rowEnd ln wy S r = some T → rowEnd ln wy S (r ++ [m]) = behindMv ln wy T m
  | [], S, T, h => by
    simp only [rowEnd] at h
    cases h
    simp only [List.nil_append, rowEnd]
    cases behindMv ln wy S m <;> rfl
  | a :: r, S, T, h => by
    simp only [rowEnd, List.cons_append] at h ⊢
    cases e : behindMv ln wy S a with
    | none => rw [e] at h; cases h
    | some U =>
      rw [e] at h
      exact rowEnd_snoc h
/-- its front parts lead somewhere, too -/
theorem rowEnd_take {ln : List Int} {wy : List Bool} : ∀ {r : List Mv} {S T : Stand} (i : Nat), rowEnd ln wy S r = some T → ∃ U, rowEnd ln wy S (r.take i) = some U
  | _, S, _, 0, _ => ⟨S, by simp [rowEnd]⟩
  | [], S, _, i + 1, _ => ⟨S, by simp [rowEnd]⟩
  | a :: r, S, T, i + 1, h => by
    simp only [rowEnd, List.take_succ_cons] at h ⊢
    cases e : behindMv ln wy S a with
    | none => rw [e] at h; cases h
    | some U =>
      rw [e] at h
      exact rowEnd_take i h
theorem rowEnd_ok {ln : List Int} {wy : List Bool} : ∀ {r : List Mv} {S T : Stand}, OkStand ln wy S → rowEnd ln wy S r = some T → OkStand ln wy T ∧ T.length = S.length
  | [], _, _, o, h => by
    simp only [rowEnd] at h
    cases h
    exact ⟨o, rfl⟩
  | a :: r, S, T, o, h => by
    simp only [rowEnd] at h
    cases e : behindMv ln wy S a with
    | none => rw [e] at h; cases h
    | some U =>
      rw [e] at h
      obtain ⟨o1, l1⟩ := behinds_ok o (behindMv_mem e)
      obtain ⟨o2, l2⟩ := rowEnd_ok o1 h
      exact ⟨o2, l2.trans l1⟩
/-- so many asides -/
def asides (r : List Mv) : Nat := r.countP fun m => decide (m.1 = .aside)
theorem rowEnd_left {ln : List Int} {wy : List Bool} : ∀ {r : List Mv} {S T : Stand}, OkStand ln wy S → rowEnd ln wy S r = some T → leftOf ln wy S + asides r = leftOf ln wy T + r.length
  | [], S, T, _, h => by
    simp only [rowEnd] at h
    cases h
    simp [asides]
  | a :: r, S, T, o, h => by
    simp only [rowEnd] at h
    cases e : behindMv ln wy S a with
    | none => rw [e] at h; cases h
    | some U =>
      rw [e] at h
      obtain ⟨s, hs, eU⟩ := behindMv_some e
      obtain ⟨k, hk, hc⟩ := mem_pairs.mp hs
      have ek : a.2 = k := (mem_choices hc).1
      have z := step_left o hc
      rw [← ek, ← eU] at z
      have ih := rowEnd_left (behinds_ok o (behindMv_mem e)).1 h
      have ea : (asides (a :: r) : Int) = asides r + (if a.1 = .aside then 1 else 0) := by
        unfold asides
        rw [List.countP_cons]
        by_cases q : a.1 = .aside <;> simp [q]
      rw [ea, List.length_cons]
      by_cases q : a.1 = .aside
      · rw [if_pos q] at z ⊢
        push_cast
        omega
      · rw [if_neg q] at z ⊢
        push_cast
        omega
theorem left_out {ln : List Int} : ∀ {wy : List Bool} {S : Stand}, allOut S = true → leftOf ln wy S = 0
  | [], _, _ => by simp [leftOf]
  | _ :: _, [], _ => by simp [leftOf]
  | w :: wy, s :: S, h => by
    simp only [allOut, List.all_cons, Bool.and_eq_true, decide_eq_true_eq] at h
    have ih := left_out (ln := ln) (wy := wy) (S := S) (by simpa [allOut] using h.2)
    simp only [leftOf, ih, h.1, stepsLeft]
    rfl
/-- rows and the number of their moves -/
theorem row_through {ln : List Int} {wy : List Bool} : ∀ {r : List Mv} {S T : Stand}, rowEnd ln wy S r = some T → allOut T = true → Through ln wy S r.length
  | [], S, T, h, ha => by
    simp only [rowEnd] at h
    cases h
    exact .out ha
  | a :: r, S, T, h, ha => by
    simp only [rowEnd] at h
    cases e : behindMv ln wy S a with
    | none => rw [e] at h; cases h
    | some U =>
      rw [e] at h
      exact .on (behindMv_mem e) (row_through h ha)
theorem through_row {ln : List Int} {wy : List Bool} {S : Stand} {n : Nat} (t : Through ln wy S n) : ∃ r T, rowEnd ln wy S r = some T ∧ allOut T = true ∧ r.length = n := by
  induction t with
  | @out S h => exact ⟨[], S, rfl, h, rfl⟩
  | on hT _ ih =>
    obtain ⟨r, U, h1, h2, h3⟩ := ih
    obtain ⟨m, hm⟩ := mem_behindMv hT
    refine ⟨m :: r, U, ?_, h2, by simp [h3]⟩
    simp only [rowEnd, hm]
    exact h1
end Sl

set_option Elab.async false
set_option linter.all false
set_option maxRecDepth 100000
set_option maxHeartbeats 4000000
/-! Rules of my own: enumerate over a tuple, a range kept by a name, a tuple so many times, dicts made of data by a display, by a comprehension, their items as a list. -/
namespace Sl
open PySem PySem.Spec PyProof.Rows L2
open Sem (wp)
/-! ### enumerate(t), t a tuple -/
theorem new_enumT {b : Addr} {ys : Array Value} :
    Meets (Builtin.«enumerate.__new__» ⟨[.type "enumerate", .ref b], []⟩) (fun _ R s => s.heap.IsTuple b ys ∧
      R (.ok (.ret (.ref (s.heap.push { cls := .type "tuple_iterator", data := .fields #[.ref b, .int 0 0] }).objs.size)))
        { s with heap := (s.heap.push { cls := .type "tuple_iterator", data := .fields #[.ref b, .int 0 0] }).push { cls := .type "enumerate", data := .fields #[.none, .bool false, .ref s.heap.objs.size, rawInt 0, .none, .none] } }) :=
  .of_wp fun prog w A R s ht => by
    obtain ⟨h0, g0, d0, t0, o0⟩ := s
    obtain ⟨isT, fin⟩ := ht
    have hsub := sub_enumerate
    have begins : ∀ {A' : Around} {E Q : Value → Shared → Prop}, Q (.ref h0.objs.size) ⟨h0.push { cls := .type "tuple_iterator", data := .fields #[.ref b, .int 0 0] }, g0, d0, t0, o0⟩ → wpAny (model prog w) A' (pyIter (.ref b)) Q E ⟨h0, g0, d0, t0, o0⟩ :=
      fun q => (begins_tuple b ys).iter prog w _ _ ⟨h0, g0, d0, t0, o0⟩ _ isT q
    wp_walk using begins
    refine wpAny_stack_any fun stk => wpAny_pure ?_
    split
    · rename_i cl _ _ _ _ _
      rcases hq : (cl == Value.type "enumerate") with _ | _
      all_goals
        wp_walk using begins
        exact ⟨_, rfl, fin⟩
    · wp_walk using begins
      exact ⟨_, rfl, fin⟩
section
variable {prog : Program} {w : World} {A : Around} {E : Value → Shared → Prop} {s : Shared}
theorem call_enumT {b : Addr} {ys : Array Value} {Q : Value → Shared → Prop} (isT : s.heap.IsTuple b ys)
    (fin : ∀ h', IsEnum h' (s.heap.objs.size + 1) s.heap.objs.size 0 .none → h'.IsTupleIter s.heap.objs.size b 0 → h'.objs.size = s.heap.objs.size + 2 → (∀ c o, s.heap.get? c = some o → h'.get? c = some o) → Q (.ref (s.heap.objs.size + 1)) { s with heap := h' }) :
    wpAny (model prog w) A (call (.type "enumerate") [.ref b]) Q E s := by
  refine callType_new F.called_enumerate (by decide) (F.typeCall_enumerate_1 _) (F.newCall_enumerate_1 _) (fun obj => F.args_object_init_2 obj _) F.entry_enumerate_new (new_enumT (b := b) (ys := ys)) ⟨isT, ?_⟩
  have z : (s.heap.push { cls := .type "tuple_iterator", data := .fields #[.ref b, .int 0 0] }).objs.size = s.heap.objs.size + 1 := Heap.size_push ..
  show _ ∧ _
  rw [z]
  have en := Heap.get?_push_size (s.heap.push { cls := .type "tuple_iterator", data := .fields #[.ref b, .int 0 0] }) (o := { cls := .type "enumerate", data := .fields #[.none, .bool false, .ref s.heap.objs.size, rawInt 0, .none, .none] }) rfl
  rw [z] at en
  exact ⟨⟨_, en, rfl⟩, fin _ en ⟨_, Heap.get?_push_of_some _ (Heap.get?_push_size _ rfl), rfl, rfl⟩ (by rw [Heap.size_push, z]) fun c o q => Heap.get?_push_of_some _ (Heap.get?_push_of_some _ q)⟩
end
/-- a turn gives a new pair of its number and its item -/
def IteT (K : PySem.W.Frag) (a : Addr) : It where
  go := fun i H => ∃ (xs : List V) (x : V), SqT K H a xs ∧ xs[i]? = some x
  yld := fun i H v H' => ∃ T x, v = .ref T ∧ H T = none ∧ H' = upd H T (.tup [.int (i : Nat), x]) ∧ ∀ xs, SqT K H a xs → xs[i]? = some x
  stop := fun i H => ∃ xs : List V, SqT K H a xs ∧ xs.length = i
/-- where it stands behind i turns -/
def StE (e it a : Addr) (i : Nat) (h : Heap) : Prop := ((∃ old, IsEnum h e it ((i : Nat) : Int) old) ∧ h.IsTupleIter it a i) ∧ e ≠ it
section
variable {e it a : Addr} {h : Heap} {i : Nat} {ys : Array Value}
theorem StE.notE (st : StE e it a i h) (l : h.IsTuple a ys) : e ∉ [it, a] := fun q => by
  obtain ⟨⟨⟨old, g⟩, _⟩, ne⟩ := st
  rcases List.mem_cons.mp q with q | q
  · exact ne q
  · rw [List.mem_singleton] at q
    obtain ⟨o, g', c', _⟩ := l
    rw [← q, g] at g'
    cases g'
    exact absurd (Value.type.inj c') (by decide)
theorem StE.notI (st : StE e it a i h) (l : h.IsTuple a ys) : a ≠ it := fun q => by
  obtain ⟨_, g, c, _⟩ := st.1.2
  obtain ⟨_, g', c', _⟩ := l
  rw [← q, g'] at g
  cases g
  rw [c'] at c
  exact absurd c (by decide)
end
theorem turn_enumT {P : Program} {w : World} {K : PySem.W.Frag} {elts : List Expr} {kk : Nat} {tpos : Pos} (a e it : Addr) : Turn P w K (.Tuple elts kk tpos) (IteT K a) [e, it] e (StE e it a) where
  mem := List.mem_cons_self ..
  obj := fun i h ⟨⟨⟨old, g⟩, ⟨o, g2, _, d⟩⟩, _⟩ => by
    simp only [List.forall_mem_cons]
    exact ⟨⟨_, g, fun _ => nofun⟩, ⟨o, g2, fun _ q => nomatch d.symm.trans q⟩, fun _ q => nomatch q⟩
  keep := fun i h h' ⟨⟨⟨old, g⟩, w1⟩, ne⟩ kp => ⟨⟨⟨old, kp _ (by simp) _ g⟩, w1.at fun o => kp it (by simp) o⟩, ne⟩
  item := by
    rintro Y rfl rfl rfl calm i pn s σ H E J fr st ⟨xs, x, sx, gx⟩
    obtain ⟨vs, rvs, pl, _⟩ := J.tuple sx
    obtain ⟨u, hu, ru⟩ := rvs.get gx
    have bu : i < vs.length := (List.getElem?_eq_some_iff.mp hu).1
    have hh : Y.A.in1.handled = none := J.ok.hd calm
    obtain ⟨⟨⟨old, g⟩, w1⟩, ne⟩ := id st
    have elt : e < s.heap.objs.size := Heap.lt_size g
    have ilt : it < s.heap.objs.size := by
      obtain ⟨_, q, _⟩ := id w1
      exact Heap.lt_size q
    refine wpAny_pyNext_enum_itemD (Draws.tuple hh it a (st.notI (ys := vs.toArray) pl) vs.toArray) g ⟨w1, pl⟩ (by simpa using bu) ne (st.notE (ys := vs.toArray) pl) fun v h1 tk gv ho ⟨n1, _⟩ T1 _ kp => ?_
    obtain rfl : u = v := Option.some.inj (hu.symm.trans (by simpa using gv))
    refine ⟨_, rfl, wpAny_letOwnedTupleGo_enum (s := { s with heap := h1, toks := tk + 1 }) ho fun h2 g2 but => ?_⟩
    have T2 := (but.2 _ (Nat.ne_of_gt elt)).trans T1
    have I2 := J.turnedNew (t' := tk + 1) (ch := [e, it]) (h' := h2) (T := s.heap.objs.size) (ob := .tup [.int (i : Nat), x]) (fun c o hc q => (but.2 c fun z => hc (by simp [z])).trans (kp c o (fun z => hc (by simp [z])) (fun z => hc (by simp [z])) q)) fr (Nat.le_refl _)
      ⟨(by decide : 2 ≤ sizeLine), [.int i tk, u], .cons ⟨_, rfl⟩ (.cons ru .nil), _, T2, rfl, _, rfl⟩
    have nx : ((i + 1 : Nat) : Int) = (i : Int) + 1 := by omega
    refine ⟨.ref s.heap.objs.size, _, I2, rfl, ⟨_, x, rfl, J.hok.fresh (Nat.le_refl _), rfl, fun l q => (J.tuple_inj q sx) ▸ gx⟩, ⟨⟨⟨u, by rw [nx]; exact g2⟩, n1.at fun o q => (but.2 _ ne.symm).trans q⟩, ne⟩, fun c hc => ?_⟩
    have hlt : c < s.heap.objs.size := by
      rcases List.mem_cons.mp hc with z | z
      · rw [z]; exact elt
      · rw [List.mem_singleton.mp z]; exact ilt
    exact (upd_ne (Nat.ne_of_lt hlt)).trans (fr c hc).1
  done := by
    rintro Y rfl rfl rfl calm i pn s σ H E J fr st ⟨xs, sx, ex⟩
    obtain ⟨vs, rvs, pl, _⟩ := J.tuple sx
    have lv := rvs.length
    obtain ⟨⟨⟨old, g⟩, w1⟩, ne⟩ := id st
    obtain ⟨f0, f1, f2, f3, f4, f5⟩ := fr it (by simp)
    have hh : Y.A.in1.handled = none := J.ok.hd calm
    refine wpAny_pyNext_enum_endD (Draws.tuple hh it a (st.notI (ys := vs.toArray) pl) vs.toArray) g ⟨by rw [show vs.toArray.size = i by simp; omega]; exact w1, pl⟩ fun h' eb => ⟨rfl, J.turned (t' := s.toks) (fun c o hc q => eb c o hc q) f0 f1 f3 f4 f5⟩
  self := fun A i s Q E ⟨⟨⟨_, g⟩, _⟩, _⟩ hq => wpAny_pyIter_enum g hq
def iEnumT (K : PySem.W.Frag) (ta : TA) : TI := fun σ H R => ta σ H fun vs H1 => ∃ a xs, vs = [.ref a] ∧ SqT K H1 a xs ∧ R (IteT K a) H1
theorem pi_enumT {X : Cx} {e : Expr} {ta : TA} {p pos tpos : Pos} {elts : List Expr} {kk : Nat} {K : PySem.W.Frag} (hg : Gl X "enumerate") (hm : X.mg "enumerate" = none) (ha : PA X [e] ta) (hK : X.K = K := by rfl) (st : starEach [e] X.env = [(false, eval e X.env)] := by rfl) :
    PI X (.Tuple elts kk tpos) (.Call (.Name "enumerate" p) [e] [] pos) (iEnumT K ta) := by
  subst hK
  refine ⟨fun pins s σ H R I wish => ?_⟩
  refine Call_ (ld_blt I hg hm boot_enumerate (PyProof.Rows.callWith_type1 (thn (ha.run pos pins s σ H _ I wish) fun us t ⟨vs, G, J, rs, a, xs, ev, sx, q⟩ => ?_) st rfl))
  subst ev
  obtain ⟨u, eu, ru⟩ := Vals.one rs
  subst eu
  cases ru
  obtain ⟨ks, _, pl, _⟩ := J.tuple sx
  refine call_enumT (ys := ks.toArray) pl fun h1 he hw _ kp => wpAny_pyIter_enum he ?_
  have free : ∀ c, t.heap.objs.size ≤ c → FpOk X pins G c := fun c hc => J.fpOk hc (J.hok.fresh hc)
  refine ⟨t.heap.objs.size + 1, [t.heap.objs.size + 1, t.heap.objs.size], _, _, G, rfl, J.kept (t' := t.toks) kp, turn_enumT a (t.heap.objs.size + 1) t.heap.objs.size, ⟨⟨⟨_, he⟩, hw⟩, Nat.succ_ne_self _⟩, ?_, q⟩
  simp only [List.forall_mem_cons]
  exact ⟨free _ (Nat.le_add_right ..), free _ (Nat.le_refl _), fun _ z => nomatch z⟩
/-- enumerate(l), its wish told over K -/
theorem pi_enumK {X : Cx} {e : Expr} {ta : TA} {p pos tpos : Pos} {elts : List Expr} {kk : Nat} {K : PySem.W.Frag} (hg : Gl X "enumerate") (hm : X.mg "enumerate" = none) (ha : PA X [e] ta) (hK : X.K = K := by rfl) (st : starEach [e] X.env = [(false, eval e X.env)] := by rfl) :
    PI X (.Tuple elts kk tpos) (.Call (.Name "enumerate" p) [e] [] pos) (iEnum K ta) := by
  subst hK
  exact pi_enum hg hm ha st
theorem walk_enumT {K : PySem.W.Frag} {a : Addr} {xs : List V} : Walk (IteT K a) xs.length (fun H => SqT K H a xs) (YPair (fun i => some (.int (i : Nat))) (fun i => xs[i]?)) where
  goes := fun i _ hi q => ⟨xs, xs[i], q, by simp [hi]⟩
  stops := fun _ q => ⟨xs, q, rfl⟩
  yields := fun i H v H' _ q ⟨T, x, h1, h2, h3, h4⟩ => ⟨T, .int (i : Nat), x, h1, h2, h3, rfl, h4 xs q⟩
/-! ### a range that a name holds -/
def iRngV (te : TE) : TI := fun σ H R => te σ H fun x H1 => ∃ a lo hi, x = .ref a ∧ H1 a = some (.rng lo hi) ∧ (-(2 ^ 62) ≤ lo ∧ lo < 2 ^ 62 ∧ -(2 ^ 62) ≤ hi ∧ hi < 2 ^ 62) ∧ R (Itr lo (hi - lo).toNat) H1
theorem pi_rngV {X : Cx} {tg e : Expr} {te : TE} (he : PE X e te) : PI X tg e (iRngV te) := ⟨fun pins s σ H R I wish => by
  refine thn (he.run pins s σ H _ I wish) fun u t ⟨x, G, J, rx, a, lo, hi, ex, ga, ⟨b1, b2, b3, b4⟩, q⟩ => ?_
  subst ex
  cases rx
  obtain ⟨t1, t2, t3, g⟩ := (show ObjOk X.prog X.w G t.heap a (.rng lo hi) from J.hok a _ ga)
  refine wpAny_pyIter_range (r := a) g (small_one b1 b2 b3 b4) ?_
  refine ⟨t.heap.objs.size, [t.heap.objs.size], _, _, G, rfl, J.kept (t' := t.toks) fun c o z => Heap.get?_push_of_some _ z, turn_range _ lo (hi - lo).toNat, ?_, fun c hc => ?_, q⟩
  · have e1 : lo + ((0 : Nat) : Int) * 1 = lo := by simp
    have e2 : (((hi - lo).toNat : Nat) : Int) - ((0 : Nat) : Int) = Builtin.Range.rangeSize lo hi 1 := by
      rw [rangeSize_one]
      split <;> omega
    show IsRangeIter _ _ (lo + ((0 : Nat) : Int) * 1) ((((hi - lo).toNat : Nat) : Int) - ((0 : Nat) : Int)) 1
    rw [e1, e2]
    exact Heap.get?_push_size _ rfl
  · rw [List.mem_singleton.mp hc]
    exact J.fpOk (Nat.le_refl _) (J.hok.fresh (Nat.le_refl _))⟩
end Sl

set_option Elab.async false
set_option linter.all false
set_option maxRecDepth 100000
set_option maxHeartbeats 4000000
namespace Sl
open PySem PySem.Spec PyProof.Rows L2
/-! ### a tuple so many times -/
theorem mul_one (l : Addr) (items : Array Value) (n : Nat) (dd : Option Addr) (sl : Array (Option Value)) (u : Tok) :
    Meets (Builtin.«tuple.__mul__» ⟨[.ref l, .int 1 u], []⟩) (fun _ R s => s.heap.get? l = some { cls := .type "tuple", dict := dd, data := .seq items n, slots := sl } ∧ R (.ok (.ret (Value.ref l))) s) :=
  .of_wp fun prog w A R s h => by
    obtain ⟨hp, g, d, tk, os⟩ := s
    obtain ⟨hl, fin⟩ := h
    have f1 := AutoSeq1.idx_int
    have or1 : (items.isEmpty || (1 : Int) == 1) = true := by simp
    wp_walk using AutoSeq1.wpAny_loadPart' hl
    exact ⟨_, rfl, fin⟩
def rRepF (K : PySem.W.Frag) : R2 := fun x y H Q => ∃ l k xs, (x = .ref l ∧ y = .int k) ∧ SqT K H l xs ∧ xs ≠ [] ∧ (1 ≤ k ∧ k ≤ 1000 ∧ xs.length ≤ 1000) ∧ (k = 1 → Q (.ref l) H) ∧ (k ≠ 1 → nT H (List.replicate k.toNat xs).flatten Q)
theorem op_repF {X : Cx} : OpR X (binaryOp .Mult) (rRepF X.K) := fun pins s σ H _ _ v u Q J rx ry ⟨l, k, xs, ⟨e1, e2⟩, hT, ne, ⟨b1, b2, b3⟩, one, more⟩ => by
  subst e1 e2
  cases rx
  obtain ⟨t, rfl⟩ := ry
  obtain ⟨vs, r, ⟨⟨cls, dd, data, sl⟩, g, hc, n, hd⟩, z⟩ := J.tuple hT
  simp only at hc hd
  subst hc hd
  have lv : vs.length = xs.length := r.length.symm
  have nv : vs ≠ [] := fun e => ne (r.nil_iff.mp e)
  by_cases h1 : k = 1
  · subst h1
    exact wpAny_binaryOp_repeat_ref (T := "tuple") (U := "int") (by decide) ⟨_, g, rfl⟩ (fun s' => typeIs_int s' 1 t) noFill_tuple_mul F.fills_int_mul F.slot_int_rmul repeat_tuple F.slot_int_index.lookup
      (call_meets F.slot_int_rmul (typeIs_int s 1 t) F.entry_int_rmul (F.args_int_rmul_2 _ _) (int_rmul_tuple 1 t l vs.toArray n dd sl)
        ⟨g, rfl, ⟨_, g, rfl⟩, call_meets F.slot_tuple_mul ⟨_, g, rfl⟩ F.entry_tuple_mul (F.args_tuple_mul_2 _ _) (mul_one l vs.toArray n dd sl t) ⟨g, .ref l, H, J, rfl, one rfl⟩⟩)
  · have hi : vs.toArray.isEmpty = false := by
      cases vs with
      | nil => exact absurd rfl nv
      | cons a b => rfl
    have zs : vs.toArray.size = xs.length := by rw [List.size_toArray, lv]
    have a1 : ((xs.length : Nat) : Int) * k ≤ 1000 * k := Int.mul_le_mul_of_nonneg_right (by omega) (by omega)
    have hm : ((vs.toArray.size : Nat) : Int) * k ≤ 1000000 := by rw [zs]; omega
    have a2 : k.toNat * xs.length ≤ 1000 * 1000 := Nat.mul_le_mul (by omega) b3
    have fl : (List.replicate k.toNat vs).flatten.length ≤ sizeLine := by
      rw [PyProof.Rows.lm_len_rep_flat, lv, sizeLine_eq]
      omega
    have q0 : (decide (k < -(2 ^ 63)) || decide (k ≥ 2 ^ 63)) = false := by
      rw [decide_eq_false (by omega), decide_eq_false (by omega)] <;> rfl
    have q1 : (vs.toArray.isEmpty || k == 1) = false := by
      rw [hi, Bool.false_or]
      exact beq_eq_false_iff_ne.mpr h1
    have q2 : (decide (k ≤ 0) || vs.toArray.isEmpty) = false := by
      rw [hi, Bool.or_false]
      exact decide_eq_false (by omega)
    have q4 : Builtin.Tuple.tupleTooMany (((vs.toArray.size : Nat) : Int) * k) = false := by
      unfold Builtin.Tuple.tupleTooMany
      rw [sizeLine_eq]
      exact decide_eq_false (by omega)
    refine wpAny_binaryOp_repeat_ref (T := "tuple") (U := "int") (by decide) ⟨_, g, rfl⟩ (fun s' => typeIs_int s' k t) noFill_tuple_mul F.fills_int_mul F.slot_int_rmul repeat_tuple F.slot_int_index.lookup
      (call_meets F.slot_int_rmul (typeIs_int s k t) F.entry_int_rmul (F.args_int_rmul_2 _ _) (int_rmul_tuple k t l vs.toArray n dd sl)
        ⟨g, rfl, ⟨_, g, rfl⟩, call_meets F.slot_tuple_mul ⟨_, g, rfl⟩ F.entry_tuple_mul (F.args_tuple_mul_2 _ _) (tuple_mulW l vs.toArray n dd sl k t q0 q1 q2 (by omega) q4 (by rw [size_rep, List.size_toArray]; exact fl)) ⟨g, ?_⟩⟩)
    rw [size_rep]
    exact nT_give (s := s) (g := s.heap) (tk := s.toks) J (r.rep k.toNat) (by
      rw [PyProof.Rows.lm_len_rep_flat, sizeLine_eq]
      omega) (more h1)
/-! ### {k: v}, one entry, k data -/
section
variable {X : Cx}
theorem dn_new {P : Program} {w : World} {H : Hp} (h : Heap) (big : sysModules < h.objs.size) : ObjOk P w H (h.push { cls := .type "dict", data := .dict #[] }) h.objs.size (dNO P w h.objs.size []) :=
  dNO_ok ⟨Nat.zero_le _, beq_eq_false_iff_ne.mpr (Ne.symm (Nat.ne_of_lt big)), [], .nil, _, #[], 0, Heap.get?_push_size _ rfl, ⟨rfl, rfl, rfl⟩, rfl, rfl, List.nodup_nil⟩
/-- a store at data -/
theorem n_store {pins : List (Addr × Obj)} {σ : L2.St} {H : Hp} {s : Shared} {A : Around} {E : Value → Shared → Prop} {D b : Addr} {ks : List Ent} {k : NestedKey} {v : V} {r : Value} {Q : Unit → Shared → Prop} (room : A.units + 8 < cLine) (J : Inv X pins σ H s) (d : DN X.prog X.w H D ks)
    (hk : KeyAt H b k) (hz : ks.length < sizeLine) (rv : RelV v r) (fin : ∀ s', Inv X pins σ (upd H D (dNO X.prog X.w D (putN ks k b v))) s' → Q () s') : wpAny (model X.prog X.w) A (dictSet D (.ref b) r) Q E s := by
  obtain ⟨z, hd, xs, rel, dd⟩ := d.rd.heap J
  have zx : xs.length ≤ sizeLine := by rw [← Paired.length rel]; exact z
  refine wpAny_dictSet_heap (hsz := zx) (knd := nestedKind X.prog X.w) (show A.units + 8 < cLine from room) (hk.is J) dd fun h' dd' hs => fin _ ?_
  obtain ⟨q, es, ep, hq, h2, h3, h4, _, h5⟩ := dd'
  refine d_write J (by rw [d.at_]; exact True.intro) hs ⟨q, hq⟩ (dNO_ok ⟨?_, hd, _, rel.put k b rv, q, es, ep, hq, h2, h3, h4, h5⟩)
  have := putN_length ks k b v
  omega
def tDisp1 (P : Program) (w : World) (tk tv : TE) : TE := fun σ H Q => ∀ p, H p = none → tk σ (upd H p (dNO P w p [])) fun x H1 => tv σ H1 fun y H2 => ∃ b k, x = .ref b ∧ H2 p = some (dNO P w p []) ∧ KeyAt H2 b k ∧ Q (.ref p) (upd H2 p (dNO P w p (putN [] k b y)))
theorem pe_disp1 {k v : Expr} {tk tv : TE} {pos : Pos} {P : Program} {w : World} (hu : X.A.units + 9 < cLine) (hk : PE X k tk) (hv : PE X v tv) (hP : X.prog = P := by rfl) (hw : X.w = w := by rfl) : PE X (.Dict [some k] [v] pos) (tDisp1 P w tk tv) := ⟨fun pins s σ H Q J wish => by
  subst hP hw
  have fr := J.hok.fresh (Nat.le_refl s.heap.objs.size)
  have J1 := J.laid (a := s.heap.objs.size) (o := dNO X.prog X.w s.heap.objs.size []) (h' := s.heap.push { cls := .type "dict", data := .dict #[] }) (t' := s.toks) (fun _ _ z => Heap.get?_push_of_some _ z) (Nat.le_refl _) (dn_new s.heap J.big)
  refine wpAny_Dict_any rfl rfl (by simp) (by simp) (pairTrees_cons_walk (thn (hk.run pins _ σ _ _ J1 (wish _ fr)) fun u s1 ⟨x, H1, I1, rx, q1⟩ => thn (hv.run pins s1 σ H1 _ I1 q1) fun r s2 ⟨y, H2, I2, ry, b, kk, ex, at2, key2, q2⟩ => pairTrees_nil_walk ?_))
  subst ex
  cases rx
  have d : DN X.prog X.w H2 s.heap.objs.size [] := ⟨at2, fun _ z => nomatch z⟩
  have zz : (([] : List Ent)).length < sizeLine := by decide
  show wpAny _ _ (storeAll s.heap.objs.size [(.ref b, r)]) _ _ s2
  unfold storeAll
  rw [List.forIn_cons]
  refine wpAny_bind (wpAny_bind (n_store (by omega) I2 d key2 zz ry fun s' I' => wpAny_pure ?_))
  show wpAny _ _ (forIn [] PUnit.unit _) _ _ s'
  rw [List.forIn_nil]
  exact wpAny_pure ⟨.ref _, _, I', rfl, q2⟩⟩
end
/-! ### list(d.items()) -/
/-- what is told at the addresses as, behind H -/
def putAll (H : Hp) (as : List Addr) (os : List HO) : Hp := fun b => match (as.zip os).lookup b with
  | some o => some o
  | none => H b
theorem look_at : ∀ {as : List Addr} {os : List HO} {j : Nat} {a : Addr} {o : HO}, as.Nodup → as[j]? = some a → os[j]? = some o → (as.zip os).lookup a = some o
  | [], _, _, _, _, _, h, _ => by simp at h
  | _ :: _, [], _, _, _, _, _, h => by simp at h
  | b :: as, u :: os, 0, a, o, _, h1, h2 => by
    simp at h1 h2
    subst h1 h2
    simp
  | b :: as, u :: os, j + 1, a, o, nd, h1, h2 => by
    have n1 := List.nodup_cons.mp nd
    have h1' : as[j]? = some a := by simpa using h1
    have ne : (a == b) = false := beq_eq_false_iff_ne.mpr fun e => n1.1 (e ▸ List.mem_of_getElem? h1')
    rw [List.zip_cons_cons, List.lookup_cons, ne]
    exact look_at n1.2 h1' (by simpa using h2)
theorem look_off : ∀ {as : List Addr} {os : List HO} {b : Addr}, b ∉ as → (as.zip os).lookup b = none
  | [], _, _, _ => rfl
  | _ :: _, [], _, _ => rfl
  | a :: as, u :: os, b, h => by
    have ne : (b == a) = false := beq_eq_false_iff_ne.mpr fun e => h (e ▸ List.mem_cons_self ..)
    rw [List.zip_cons_cons, List.lookup_cons, ne]
    exact look_off fun z => h (List.mem_cons_of_mem _ z)
theorem look_some : ∀ {as : List Addr} {os : List HO} {b : Addr} {o : HO}, (as.zip os).lookup b = some o → ∃ j : Nat, as[j]? = some b ∧ os[j]? = some o
  | [], _, _, _, h => by simp at h
  | _ :: _, [], _, _, h => by simp at h
  | a :: as, u :: os, b, o, h => by
    rw [List.zip_cons_cons, List.lookup_cons] at h
    cases e : (b == a) with
    | true =>
      rw [e] at h
      cases h
      exact ⟨0, by rw [eq_of_beq e]; rfl, rfl⟩
    | false =>
      rw [e] at h
      obtain ⟨j, h1, h2⟩ := look_some h
      exact ⟨j + 1, by simpa using h1, by simpa using h2⟩
/-- the items of a dict of data, each a new tuple -/
def rItemsN (P : Program) (w : World) : V → Hp → VK → Prop := fun x H Q => ∃ a ks, x = .ref a ∧ DR P w H a ks ∧ ∀ (H' : Hp) (p : Addr) (ts : List Addr), Same H H' → H p = none → H' p = some (.lst (ts.map V.ref)) → ts.length = ks.length →
  (∀ (j : Nat) (t : Addr) (e : Ent), ts[j]? = some t → ks[j]? = some e → TupAt H' t [.ref e.2.1, e.2.2]) → Q (.ref p) H'
def tListItemsN (P : Program) (w : World) (te : TE) : TE := fun σ H Q => te σ H fun x H1 => rItemsN P w x H1 Q
section
variable {X : Cx} {e : Expr} {te : TE} {p apos cpos pos : Pos}
theorem pe_listItemsN {P : Program} {w : World} (hc : X.calm = true) (he : PE X e te) (hm : X.mg "list" = none) (hv : bootBuiltins "list" = some (.type "list")) (hg : Gl X "list" := by rfl) (hbase : attributeBase e "items" X.env (eval e X.env) = eval e X.env := by rfl) (hline : (apos.endLine == cpos.line) = true := by rfl)
    (hs : starEach [.Call (.Attribute e "items" apos) [] [] cpos] X.env = (false, eval (.Call (.Attribute e "items" apos) [] [] cpos) X.env) :: starEach [] X.env := by rfl) (hP : X.prog = P := by rfl) (hw : X.w = w := by rfl) :
    PE X (.Call (.Name "list" p) [.Call (.Attribute e "items" apos) [] [] cpos] [] pos) (tListItemsN P w te) := ⟨fun pins s σ H Q J wish => by
  subst hP hw
  refine wpAny_Call_Name_kw (ld_blt J hg hm hv (PyProof.Rows.callWith_type1 ?_ hs rfl))
  rw [hs]
  show wpAny _ _ (spliced ((false, eval (.Call (.Attribute e "items" apos) [] [] cpos) X.env) :: backTo pos (starEach [] X.env))) _ _ s
  refine Calls.spliced_cons (wpAny_Call_method (T := "dict") (id := "dict.items") hbase rfl hline F.plainAttrs_dict F.slot_dict_items F.type_dict_items (thn (he.run pins s σ H _ J wish) fun u s1 ⟨x, G, J1, rx, a, ks, ex, d, q⟩ => ?_))
  subst ex
  cases rx
  obtain ⟨z, lo, xs, rel, ob, es, ep, g, hx, hdt, hes, _⟩ := d.heap J1
  have raw : s1.heap.DictRaw a es ep := ⟨ob, g, hx, hdt⟩
  have zes : es.size = ks.length := by rw [size_of_entries hes, Paired.length rel]
  refine ⟨raw.typeIs, fun b eb => ⟨ob, by cases eb; exact g, hx.2.1⟩, ?_⟩
  have J2 : Inv X pins σ G { s1 with heap := s1.heap.push { cls := .type "dict_items", data := .fields #[.ref a] } } := J1.kept (t' := s1.toks) fun b o q => Heap.get?_push_of_some _ q
  show wpAny _ _ (callWith cpos (.builtin "dict.items") [.ref a] [] []) _ X.xe s1
  refine method_meetsIn F.slot_dict_items F.entry_dict_items rfl (PySem.evalArgs_none ⟨rfl, raw.typeIs, F.args_dict_items_1 _, _, meets_dict_items_raw a lo, ⟨es, ep, raw⟩, ?_⟩)
  refine Calls.spliced_nil (PySem.W.dil_call (J1.ok.hd hc) ⟨_, Heap.get?_push_size _ rfl, rfl, rfl⟩ (raw.at fun o q => Heap.get?_push_of_some _ q) (by omega) fun h2 tk acc c as keep hS hl hG hacc => ?_)
  generalize hs2 : ({ s1 with heap := s1.heap.push { cls := .type "dict_items", data := .fields #[.ref a] } } : Shared) = s2 at J2 keep hS hG
  -- each pair
  have pair : ∀ (j : Nat) (t : Addr), as[j]? = some t → ∃ (e : Ent) (k v : Value), ks[j]? = some e ∧ RelV (.ref e.2.1) k ∧ RelV e.2.2 v ∧ h2.get? t = some (tupObj [k, v]) := fun j t ht => by
    obtain ⟨hj, gt⟩ := hG.pairs j t ht
    have hjk : j < ks.length := by omega
    obtain ⟨x, hx1, hx2⟩ := paired_get rel (List.getElem?_eq_getElem hjk)
    have q := entry_at hes j
    rw [hx1, Array.getElem?_eq_getElem hj] at q
    have e1 : es[j] = entryOfKey (nestedKind X.prog X.w) x := Option.some.inj q
    refine ⟨ks[j], es[j].key, es[j].val, List.getElem?_eq_getElem hjk, ?_, ?_, gt⟩
    · rw [e1, hx2.2.1]
      rfl
    · rw [e1]
      exact hx2.2.2
  let ob2 : Nat → Obj := fun j => ((as[j]?).bind fun t => h2.get? t).getD default
  let os : List HO := (List.range ks.length).map fun j => HO.frz (ob2 j) (.tup [.ref ((ks.getD j (.none, 0, .non)).2.1), (ks.getD j (.none, 0, .non)).2.2])
  have los : os.length = ks.length := by simp [os]
  have nd : as.Nodup := List.Pairwise.imp (fun {a b} (h : a < b) => Nat.ne_of_lt h) hG.rise
  have S0 : s2.heap.objs.size ∉ as := fun q => Nat.lt_irrefl _ (hG.above _ q)
  have newS : G s2.heap.objs.size = none := J2.hok.fresh (Nat.le_refl _)
  have new : ∀ t ∈ as, G t = none := fun t ht => J2.hok.fresh (Nat.le_of_lt (hG.above t ht))
  have at_os : ∀ (j : Nat) (t : Addr), as[j]? = some t → ∃ e o, ks[j]? = some e ∧ h2.get? t = some o ∧ os[j]? = some (.frz o (.tup [.ref e.2.1, e.2.2])) := fun j t ht => by
    obtain ⟨e, k, v, he, _, _, gt⟩ := pair j t ht
    have hjk : j < ks.length := lt_of_some he
    refine ⟨e, _, he, gt, ?_⟩
    have e1 : ob2 j = tupObj [k, v] := by
      show ((as[j]?).bind fun t => h2.get? t).getD default = _
      rw [ht]
      show (h2.get? t).getD default = _
      rw [gt]
      rfl
    have e2 : ks.getD j (.none, 0, .non) = e := by rw [List.getD_eq_getElem?_getD, he]; rfl
    show ((List.range ks.length).map _)[j]? = _
    rw [List.getElem?_map, List.getElem?_range hjk]
    show some (HO.frz (ob2 j) (.tup [.ref ((ks.getD j (.none, 0, .non)).2.1), (ks.getD j (.none, 0, .non)).2.2])) = _
    rw [e1, e2]
  let H2 : Hp := putAll (upd G s2.heap.objs.size (.lst (as.map V.ref))) as os
  have off : ∀ b, b ∉ as → b ≠ s2.heap.objs.size → H2 b = G b := fun b h1 h2 => by
    show (match (as.zip os).lookup b with | some o => some o | none => _) = _
    rw [look_off h1]
    exact upd_ne h2
  have atS : H2 s2.heap.objs.size = some (.lst (as.map V.ref)) := by
    show (match (as.zip os).lookup _ with | some o => some o | none => _) = _
    rw [look_off S0]
    exact upd_same
  have on : ∀ (j : Nat) (t : Addr) (o : HO), as[j]? = some t → os[j]? = some o → H2 t = some o := fun j t o h1 h3 => by
    show (match (as.zip os).lookup t with | some o => some o | none => _) = _
    rw [look_at nd h1 h3]
  have same : Same G H2 := fun b o hb => by
    rw [off b (fun q => by rw [new b q] at hb; cases hb) (fun q => by rw [q, newS] at hb; cases hb)]
    exact hb
  have low : ∀ b o, s2.heap.get? b = some o → H2 b = G b := fun b o q =>
    off b (fun h => absurd (Heap.lt_size q) (Nat.not_lt.mpr (Nat.le_of_lt (hG.above b h)))) (Nat.ne_of_lt (Heap.lt_size q))
  have J3 : Inv X pins σ H2 { s2 with heap := h2, toks := tk } := by
    refine J2.call' (ch := []) rfl ⟨fun b o q _ _ _ => keep b o q, fun b o q _ _ _ => ⟨o.slots, keep b o q⟩, fun b o q n _ => (low b o q).trans n, fun b o q _ => ⟨o, keep b o q⟩, fun b xs q => same b _ q, fun b o u q => same b _ q, fun b ps q => ⟨#[], by rw [same b _ q]; simp⟩⟩ (fun b u q => ?_) J2.bare fun b hb => nomatch hb
    by_cases hb : b ∈ as
    · obtain ⟨j, hj⟩ := List.mem_iff_getElem?.mp hb
      obtain ⟨e, o, he, go, ho⟩ := at_os j b hj
      rw [on j b _ hj ho] at q
      cases q
      obtain ⟨e', k, v, he', r1, r2, gt⟩ := pair j b hj
      rw [he] at he'
      cases he'
      rw [go] at gt
      cases gt
      exact ⟨go, (by show 2 ≤ sizeLine; decide), [k, v], .cons r1 (.cons r2 .nil), _, go, rfl, _, rfl⟩
    · by_cases hb2 : b = s2.heap.objs.size
      · subst hb2
        rw [atS] at q
        cases q
        refine ⟨by rw [List.length_map]; omega, acc.toList, c, by rw [hacc]; exact vals_refs as, ?_⟩
        rw [Array.toArray_toList]
        exact hS
      · rw [off b hb hb2] at q
        exact (J2.hok b u q).stay (fun d v _ y => keep d v y) (fun d y => same d _ y) fun d xs y => same d _ y
  exact ⟨.ref _, H2, J3, rfl, q H2 _ as same newS atS (by omega) fun j t e ht he => by
    obtain ⟨e', o, he', go, ho⟩ := at_os j t ht
    rw [he] at he'
    cases he'
    obtain ⟨_, k, v, _, _, _, gt⟩ := pair j t ht
    rw [go] at gt
    cases gt
    exact ⟨_, on j t _ ht ho, rfl⟩⟩⟩
end
end Sl

set_option Elab.async false
set_option linter.all false
set_option maxRecDepth 100000
set_option maxHeartbeats 4000000
/-! A dict made by a comprehension, its keys data that never change. -/
namespace Sl
open PySem PySem.Spec PyProof.Rows L2
section
variable {X : Cx}
/-- {k: v for target in iter if ..}: D the new dict -/
def tDcN (P : Program) (w : World) (wi : TI) (g : TG) (tt : TT) (tk tv : TE) (vs : List Nat) : TE := fun σ H Q => wi σ H fun J G => ∀ D, G D = none → ∃ W : Nat → Nat → Hp → Prop, (∃ m, W 0 m (upd G D (dNO P w D []))) ∧ ∀ i m U, W i m U →
  (J.stop i U ∧ Q (.ref D) U) ∨ (J.go i U ∧ ∃ Nx : Hp → Prop, (∀ U', Nx U' → ∃ m', m' < m ∧ W (i + 1) m' U') ∧ ∀ x U', J.yld i U x U' → g x (wipe σ vs) U' fun τ U2 => wipe τ vs = wipe σ vs ∧ tt τ U2 fun b U3 =>
    if b = true then tk τ U3 fun y U4 => tv τ U4 fun z U5 => ∃ a ks k, y = .ref a ∧ DN P w U5 D ks ∧ (KeyAt U5 a k ∧ ks.length < sizeLine) ∧ Nx (upd U5 D (dNO P w D (putN ks k a z))) else Nx U3)
abbrev EachB (X : Cx) (sc : Scope) (R : Cx → Prop) : Prop := ∀ (s : Shared) (H : Hp) (C : Addr) (cl : List (Str × Addr)) (fp : List Addr), R (X.blk s H sc (compEnvC sc cl C X.env) fp)
theorem pe_dcN {kx vx tg iter : Expr} {ifs : List Expr} {sc : Scope} {own : List (Str × Nat)} {pos : Pos} {wi : TI} {g : TG} {tt : TT} {tk tv : TE} {P : Program} {w : World} (room : X.A.units + 9 < cLine) (calm : X.calm = true) (nd : X.N.Nodup) (hi : PI X tg iter wi) (ok : BlkOk X.N X.env.scope sc own)
    (hg : EachB X sc fun Y => PG Y tg g) (ht : EachB X sc fun Y => PTs Y ifs tt) (hk : EachB X sc fun Y => PE Y kx tk) (hv : EachB X sc fun Y => PE Y vx tv) (hs : ∀ x, foldedSetIterable iter X.env x = pure x := by intro _; rfl) (hP : X.prog = P := by rfl) (hw : X.w = w := by rfl) :
    PE X (.DictComp kx vx [⟨tg, iter, ifs, 0⟩] sc pos) (tDcN P w wi g tt tk tv (own.map (·.2))) := ⟨fun pins s σ H Q I wish => by
  subst hP hw
  rw [arm_eval_DictComp]
  have cells : ∀ y ∈ sc.names, y.2 = .free → ∃ c, X.env.cells.lookup y.1 = some c := fun y hy e =>
    (ok.free y hy e).elim (fun k => I.ok.has _ (.inl k)) fun k => I.ok.has _ (.inr k)
  refine wpAny_comprehension_free rfl hs (closure_ok cells) ok.kind (fun y hy e => by rw [ok.uniq y hy, e]) (thn (hi.run pins s σ H _ I wish) fun xv s1 hx => thn hx fun itv s2 h2 => ?_)
  obtain ⟨it, fp, tn, J, G, rfl, I2, T, st2, f2, q⟩ := h2
  refine wpAny_newObj_type (newEnv_comp ?_)
  obtain ⟨D, hD⟩ : ∃ D, s2.heap.objs.size = D := ⟨_, rfl⟩
  rw [hD]
  obtain ⟨W, ⟨m0, w0⟩, turn⟩ := q D (I2.hok.fresh (Nat.le_of_eq hD))
  -- the dict, still empty
  obtain ⟨s3, hs3⟩ : ∃ s3 : Shared, ({ s2 with heap := s2.heap.push { cls := .type "dict", data := .dict #[] } } : Shared) = s3 := ⟨_, rfl⟩
  have h3 : s3.heap = s2.heap.push { cls := .type "dict", data := .dict #[] } := by rw [← hs3]
  have I3 : Inv X pins σ (upd G D (dNO X.prog X.w D [])) s3 := by
    rw [← hs3]
    refine I2.laid (t' := s2.toks) (fun b o e => Heap.get?_push_of_some _ e) (Nat.le_of_eq hD) ?_
    rw [← hD]
    exact dn_new s2.heap I2.big
  have below : ∀ b ∈ fp, b < s2.heap.objs.size := fun b hb => by
    obtain ⟨o, e, _⟩ := T.obj _ _ st2 b hb
    exact Heap.lt_size e
  have f3 : ∀ b ∈ fp, FpOk X pins (upd G D (dNO X.prog X.w D [])) b ∧ b < s3.heap.objs.size := fun b hb => by
    have lt := below b hb
    have neD : b ≠ D := by rw [← hD]; exact Nat.ne_of_lt lt
    exact ⟨⟨(upd_ne neD).trans (f2 b hb).1, (f2 b hb).2⟩, by rw [h3, Heap.size_push]; exact Nat.lt_succ_of_lt lt⟩
  have st3 : tn 0 s3.heap := T.keep _ _ _ st2 fun b _ o e => by rw [h3]; exact Heap.get?_push_of_some _ e
  have I4 := block_start I3 ok nd f3
  obtain ⟨cl, hcl⟩ : ∃ cl, cellsFrom (s3.heap.objs.size + 1) sc.names (cloFrom X.env.cells sc.names []) = cl := ⟨_, rfl⟩
  rw [hcl] at I4
  have pg := hg s3 (upd G D (dNO X.prog X.w D [])) s3.heap.objs.size cl fp
  have pt := ht s3 (upd G D (dNO X.prog X.w D [])) s3.heap.objs.size cl fp
  have pk := hk s3 (upd G D (dNO X.prog X.w D [])) s3.heap.objs.size cl fp
  have pv := hv s3 (upd G D (dNO X.prog X.w D [])) s3.heap.objs.size cl fp
  rw [hs3]
  show codeAny _ _ (.compStart (.DictComp kx vx [⟨tg, iter, ifs, 0⟩] sc pos) 0 (.ref it) (.ref D) (compEnvC sc (cellsFrom (s3.heap.objs.size + 1) sc.names (cloFrom X.env.cells sc.names [])) s3.heap.objs.size X.env)) _ { s3 with heap := pushCells (s3.heap.push { cls := .type "dict", data := .dict #[] }) sc.names }
  rw [hcl]
  have none3 : ∀ b ∈ fp, (upd G D (dNO X.prog X.w D [])) b = none := fun b hb => (f3 b hb).1.1
  obtain ⟨ce, hce⟩ : ∃ ce, compEnvC sc cl s3.heap.objs.size X.env = ce := ⟨_, rfl⟩
  have ceL : ce.locals = s3.heap.objs.size := by rw [← hce]; rfl
  rw [hce] at I4 pg pt pk pv ⊢
  obtain ⟨G3, hG3⟩ : ∃ G3, upd G D (dNO X.prog X.w D []) = G3 := ⟨_, rfl⟩
  rw [hG3] at I3 I4 pg pt pk pv w0 none3 f3
  obtain ⟨s4, hs4⟩ : ∃ s4 : Shared, ({ s3 with heap := pushCells (s3.heap.push { cls := .type "dict", data := .dict #[] }) sc.names } : Shared) = s4 := ⟨_, rfl⟩
  rw [hs4] at I4 ⊢
  have st4 : tn 0 s4.heap := T.keep _ _ _ st3 fun b _ o e => by rw [← hs4]; exact pushCells_keeps _ _ _ _ (Heap.get?_push_of_some _ e)
  have fpo : ∀ {σ' : L2.St} {U : Hp} {s' : Shared}, Inv (X.blk s3 G3 sc ce fp) [] σ' U s' → (∀ b ∈ fp, U b = none) → ∀ b ∈ fp, FpOk (X.blk s3 G3 sc ce fp) [] U b := fun I' hn b hb =>
    ⟨hn b hb, (I'.ok.exf b hb).1, I'.ok.exfs b hb, .inl hb, fun x c e => (I'.ok.exf b hb).2 x c e, fun p hp => absurd (show p ∈ ([] : List (Addr × Obj)) ++ [] from hp) (by simp)⟩
  have loop : codeAny (model X.prog X.w) X.A (.compLoop (.DictComp kx vx [⟨tg, iter, ifs, 0⟩] sc pos) 0 (.ref it) (.ref D) ce) (compPost (model X.prog X.w) X.A X.xe none (fun v s' => ∃ (x : V) (H' : Hp), Inv X pins σ H' s' ∧ RelV x v ∧ Q x H') (.ref D) s3.heap.objs.size) s4 := by
    refine compLoop_anyD (fun n s' => ∃ i U, Inv (X.blk s3 G3 sc ce fp) [] (wipe σ (own.map (·.2))) U s' ∧ tn i s'.heap ∧ (∀ b ∈ fp, U b = none) ∧ W i n U) ?_ m0 ⟨0, G3, I4, st4, none3, w0⟩
    rintro n s5 ⟨i, U5, I5, st5, n5, w5⟩
    rcases turn i n U5 w5 with ⟨stop, qq⟩ | ⟨go, Nx, hNx, step⟩
    · refine thnF (T.done (X.blk s3 G3 sc ce fp) rfl rfl rfl calm i [] s5 _ U5 (fun _ _ => False) I5 (fpo I5 n5) st5 stop) fun r s6 ⟨hr, I6⟩ => ?_
      subst hr
      have I7 : Inv X pins σ U5 s6 := I3.call' (ch := fp) I6.os I6.base I6.hok I6.bare fun b hb => ⟨(f3 b hb).1.2.2.2.1, (f3 b hb).1.2.1, (f3 b hb).1.2.2.2.2.1, (f3 b hb).1.2.2.2.2.2⟩
      have nC : U5 s3.heap.objs.size = none := by
        have z : U5 ce.locals = none := I6.free
        exact ceL ▸ z
      obtain ⟨m, hn, _⟩ := I6.loc
      have hn : s6.heap.Ns ce.locals m := hn
      rw [ceL] at hn
      obtain ⟨k0, k1, k2, k3, k4, k5⟩ := I3.fpOk (Nat.le_refl _) nC
      exact ⟨m, hn, fun h'' but => ⟨.ref D, U5, I7.turned (t' := s6.toks) (fun b o hb e => (but.2 b hb).trans e) k0 k1 k3 k4 k5, rfl, qq⟩⟩
    · refine thnF (T.item (X.blk s3 G3 sc ce fp) rfl rfl rfl calm i [] s5 _ U5 (fun _ _ => False) I5 (fpo I5 n5) st5 go) fun r s6 ⟨u, hr, h6⟩ => ?_
      subst hr
      refine thnF h6 fun _ s7 ⟨x, U7, I7, r7, y7, st7, n7⟩ => ?_
      have I7' := I7.pinned (fpo I7 n7) (T.obj _ _ st7)
      refine thnF (pg.run _ s7 _ U7 x u _ I7' r7 (step x U7 y7)) fun _ s8 ⟨σ8, U8, I8, hw8, q8⟩ => ?_
      refine thnF (pt.run _ s8 σ8 U8 _ I8 q8) fun b s9 ⟨U9, I9, q9⟩ => ?_
      have next : ∀ {s' : Shared} {U : Hp}, Inv (X.blk s3 G3 sc ce fp) ([] ++ pinsAt fp s7.heap) σ8 U s' → Nx U → ∃ m, m < n ∧ ∃ i U, Inv (X.blk s3 G3 sc ce fp) [] (wipe σ (own.map (·.2))) U s' ∧ tn i s'.heap ∧ (∀ b ∈ fp, U b = none) ∧ W i m U := fun {s' U} I' nx => by
        obtain ⟨m', lt, w'⟩ := hNx U nx
        have pinned : ∀ b ∈ fp, ∀ o, s7.heap.get? b = some o → s'.heap.get? b = some o ∧ U b = none := fun b hb o e =>
          let z := I'.pin (b, o) (List.mem_append_right _ (List.mem_append_right _ (mem_pinsAt hb e)))
          ⟨z.1, z.2.1⟩
        refine ⟨m', lt, i + 1, U, (I'.unpinned (pins := [])).weak (by rw [← hw8, wipe_length]) (fun j v e => ?_), T.keep _ _ _ st7 fun b hb o e => (pinned b hb o e).1, fun b hb => ?_, w'⟩
        · rw [← hw8] at e
          exact (wipe_some e).1
        · obtain ⟨o, e, _⟩ := T.obj _ _ st7 b hb
          exact (pinned b hb o e).2
      cases b with
      | false =>
        simp only [Bool.false_eq_true, if_false] at q9 ⊢
        exact next I9 q9
      | true =>
        simp only [if_true] at q9 ⊢
        refine thnF (pk.run _ s9 σ8 U9 _ I9 q9) fun u1 s10 ⟨y, U10, I10, r10, q10⟩ => thnF (pv.run _ s10 σ8 U10 _ I10 q10) fun u2 s11 ⟨z, U11, I11, r11, a, ks, k, ey, dn, ⟨key, few⟩, nx⟩ => ?_
        subst ey
        cases r10
        exact n_store (X := X.blk s3 G3 sc ce fp) (show X.A.units + 8 < cLine by omega) I11 dn key few r11 fun s12 I12 => next I12 nx
  exact codeAny_compStart_dict loop (T.self X.A 0 _ _ _ st4 loop)⟩
end
end Sl

set_option Elab.async false
set_option linter.all false
set_option maxRecDepth 100000
set_option maxHeartbeats 4000000
namespace Slx
open PySem PySem.Spec PyProof.Rows L2 Sl
def scOf : Expr → Scope
  | .ListComp _ _ sc _ => sc
  | .Call _ [.ListComp _ _ sc _] _ _ => sc
  | _ => { kind := .function, names := [], isGenerator := false, isCoroutine := false, more := [] }
def partOf : Stmt → Expr
  | .Return (some e) _ => e
  | .Assign _ e _ => e
  | _ => .Name "" ⟨0, 0, 0, 0⟩
abbrev noStmt : Stmt := .Pass ⟨0, 0, 0, 0⟩
/-- a dict comprehension over a walk -/
theorem dcN_it {P : Program} {w : World} {J : It} {n : Nat} {G : Hp → Prop} {Y : Nat → Hp → V → Hp → Prop} (wk : Walk J n G Y) {g : TG} {tt : TT} {tk tv : TE} {vs : List Nat} {σ : L2.St} {H1 : Hp} {D : Addr} {Qd : Hp → Prop} (Pv : Nat → Hp → Prop) (h0 : Pv 0 (upd H1 D (dNO P w D []))) (hG : ∀ i H, i ≤ n → Pv i H → G H)
    (hs : ∀ i x H H', i < n → Pv i H → Y i H x H' → g x (wipe σ vs) H' fun τ H2 => wipe τ vs = wipe σ vs ∧ tt τ H2 fun b H3 =>
      if b = true then tk τ H3 fun y H4 => tv τ H4 fun z H5 => ∃ a ks k, y = .ref a ∧ DN P w H5 D ks ∧ (KeyAt H5 a k ∧ ks.length < sizeLine) ∧ Pv (i + 1) (upd H5 D (dNO P w D (putN ks k a z))) else Pv (i + 1) H3) (hd : ∀ H, Pv n H → Qd H) :
    ∃ W : Nat → Nat → Hp → Prop, (∃ m, W 0 m (upd H1 D (dNO P w D []))) ∧ ∀ i m U, W i m U →
      (J.stop i U ∧ Qd U) ∨ (J.go i U ∧ ∃ Nx : Hp → Prop, (∀ U', Nx U' → ∃ m', m' < m ∧ W (i + 1) m' U') ∧ ∀ x U', J.yld i U x U' → g x (wipe σ vs) U' fun τ U2 => wipe τ vs = wipe σ vs ∧ tt τ U2 fun b U3 =>
        if b = true then tk τ U3 fun y U4 => tv τ U4 fun z U5 => ∃ a ks k, y = .ref a ∧ DN P w U5 D ks ∧ (KeyAt U5 a k ∧ ks.length < sizeLine) ∧ Nx (upd U5 D (dNO P w D (putN ks k a z))) else Nx U3) := by
  refine ⟨fun i m H => (m = n - i ∧ i ≤ n) ∧ Pv i H, ⟨n, ⟨by simp, Nat.zero_le _⟩, h0⟩, ?_⟩
  rintro i m H ⟨⟨rfl, le⟩, p⟩
  rcases Nat.lt_or_eq_of_le le with lt | rfl
  · exact .inr ⟨wk.goes i H lt (hG i H le p), Pv (i + 1), fun G p' => ⟨n - (i + 1), by omega, ⟨rfl, lt⟩, p'⟩, fun x G y => hs i x H G lt p (wk.yields i H x G lt (hG i H le p) y)⟩
  · exact .inl ⟨wk.stops H (hG _ H le p), hd H p⟩
/-! ### what a search works out ahead: each train's moves from each spot -/
def dTri (ln : List Int) (c : Mv × Spot) : PyData := .tuple [dM c.1, dS c.2, .int (mostAt ln c.2)]
def TriesAt (H : Hp) (v : V) (ln : List Int) (r : Bool) (sp : Spot) (k : Nat) : Prop := ∃ l xs, v = .ref l ∧ H l = some (.lst xs) ∧ ImAll H xs ((triesOf ln r sp k).map (dTri ln))
theorem TriesAt.same {H H' : Hp} {v : V} {ln : List Int} {r : Bool} {sp : Spot} {k : Nat} (s : Same H H') (h : TriesAt H v ln r sp k) : TriesAt H' v ln r sp k := by
  obtain ⟨l, xs, e, el, im⟩ := h
  exact ⟨l, xs, e, s _ _ el, im.mono (Ti.of s)⟩
def allSpots (n : Nat) : List Spot := spotsOf n ++ [.out]
theorem spots_all {ln : List Int} {sp : Spot} (h : okSpot ln sp) : sp ∈ allSpots ln.length := by
  unfold allSpots spotsOf
  cases sp with
  | out => simp
  | lane p => exact List.mem_append_left _ (List.mem_append_left _ (List.mem_map_of_mem (List.mem_range.mpr h)))
  | side p => exact List.mem_append_left _ (List.mem_append_right _ (List.mem_map_of_mem (List.mem_range.mpr h)))
theorem spots_ok {ln : List Int} {sp : Spot} (h : sp ∈ allSpots ln.length) : okSpot ln sp := by
  rcases List.mem_append.mp h with h | h
  · exact (spotsOf_ok h).1
  · rw [List.mem_singleton.mp h]
    trivial
theorem spots_nodup (n : Nat) : ((allSpots n).map kSp).Nodup := by
  refine List.pairwise_map.mpr (List.Pairwise.imp (fun {a b} (h : a ≠ b) e => h (kSp_inj e)) ?_)
  show (allSpots n).Nodup
  unfold allSpots spotsOf
  refine List.nodup_append.mpr ⟨List.nodup_append.mpr ⟨?_, ?_, ?_⟩, by simp, ?_⟩
  · exact List.pairwise_map.mpr (List.nodup_range.imp fun h e => h (Spot.lane.inj e))
  · exact List.pairwise_map.mpr (List.nodup_range.imp fun h e => h (Spot.side.inj e))
  · intro a ha b hb e
    obtain ⟨x, _, rfl⟩ := List.mem_map.mp ha
    obtain ⟨y, _, rfl⟩ := List.mem_map.mp hb
    cases e
  · intro a ha b hb e
    rw [List.mem_singleton.mp hb] at e
    subst e
    rcases List.mem_append.mp ha with ha | ha <;> obtain ⟨x, _, e⟩ := List.mem_map.mp ha <;> cases e
theorem spots_len (n : Nat) : (allSpots n).length = 2 * n + 1 := by
  unfold allSpots spotsOf
  simp
  omega
/-- one train's dict at d -/
def TrackAt (P : Program) (w : World) (H : Hp) (d : Addr) (ln : List Int) (r : Bool) (k : Nat) : Prop := ∃ ks, DN P w H d ks ∧ ∀ sp, okSpot ln sp → ∃ v, valN ks (kSp sp) = some v ∧ TriesAt H v ln r sp k
theorem TrackAt.same {P : Program} {w : World} {H H' : Hp} {d : Addr} {ln : List Int} {r : Bool} {k : Nat} (s : Same H H') (h : TrackAt P w H d ln r k) : TrackAt P w H' d ln r k := by
  obtain ⟨ks, dn, f⟩ := h
  exact ⟨ks, dn.same s, fun sp ok => by
    obtain ⟨v, e, t⟩ := f sp ok
    exact ⟨v, e, t.same s⟩⟩
/-- all trains' dicts, in the list at t -/
def TracksAt (P : Program) (w : World) (H : Hp) (t : Addr) (ln : List Int) (wy : List Bool) : Prop := ∃ ys, H t = some (.lst ys) ∧ ys.length = wy.length ∧ ∀ (k : Nat) (y : V) (r : Bool), ys[k]? = some y → wy[k]? = some r → ∃ d, y = .ref d ∧ TrackAt P w H d ln r k
theorem TracksAt.same {P : Program} {w : World} {H H' : Hp} {t : Addr} {ln : List Int} {wy : List Bool} (s : Same H H') (h : TracksAt P w H t ln wy) : TracksAt P w H' t ln wy := by
  obtain ⟨ys, e, l, f⟩ := h
  exact ⟨ys, s _ _ e, l, fun k y r h1 h2 => by
    obtain ⟨d, e, t⟩ := f k y r h1 h2
    exact ⟨d, e, t.same s⟩⟩
theorem im_trip {H : Hp} {v : V} {d e f : PyData} (h : Im H v (.tuple [d, e, f])) : ∃ a u1 u2 u3, v = .ref a ∧ TupAt H a [u1, u2, u3] ∧ Im H u1 d ∧ Im H u2 e ∧ Im H u3 f := by
  cases h with
  | tup t i => cases i with
    | cons h1 i => cases i with
      | cons h2 i => cases i with
        | cons h3 i => cases i; exact ⟨_, _, _, _, rfl, t, h1, h2, h3⟩
/-- a key that stands just once is read back -/
theorem val_at : ∀ {ks : List Ent} {j : Nat} {e : Ent}, (ks.map (·.1)).Nodup → ks[j]? = some e → valN ks e.1 = some e.2.2 := fun {ks j e} nd h => by
  unfold valN
  rw [find_key (g := fun x : Ent => x.1) nd (List.mem_of_getElem? h)]
  rfl
section
variable {P : Program} {w : World} {K : PySem.W.Frag} {mg : Str → Option Value} {base : Heap}
theorem three_size : 3 ≤ sizeLine := by decide
/-! ### all are out -/
theorem flatten_one {α : Type} (x : α) : ∀ n : Nat, (List.replicate n [x]).flatten = List.replicate n x
  | 0 => rfl
  | n + 1 => by rw [List.replicate_succ, List.flatten_cons, flatten_one x n, List.replicate_succ]; rfl
theorem im_same {H : Hp} {v : V} {s : Spot} (h : Im H v (dS s)) : ∀ n, ImAll H (List.replicate n v) ((List.replicate n s).map dS)
  | 0 => .nil
  | n + 1 => .cons h (im_same h n)
def spAllOut (K : PySem.W.Frag) : Sp := fun vs H Q _ => ∃ n : Nat, vs = [.int (n : Int)] ∧ (1 ≤ n ∧ n ≤ 6) ∧ ∀ H' p, Same H H' → StandAt H' p (List.replicate n .out) → Q (.ref p) H'
theorem ok_allOut (T : Txt K mg) : DefOk P w K mg base 1 "all_out" ["trains"] (spAllOut K) := by
  refine T.f_allOut.ok sc_allOut (fun vs H Q E h => by obtain ⟨n, rfl, _⟩ := h; rfl) (fun f cdv A outer s H vs Q E hr h => ?_)
  obtain ⟨n, rfl, ⟨h1, h6⟩, q⟩ := h
  refine ⟨_, (pss_one (ps_ret (pe_op (r := rRepF K) op_repF (pe_tupF (pa_cons (pe_tupF (pa_cons pe_str pa_nil)) pa_nil)) (pv 0)))), ?_⟩
  refine ⟨one_size, nT_q fun H1 p1 s1 t1 => ⟨one_size, nT_q fun H2 p2 s2 t2 => ?_⟩⟩
  have io : Im H2 (.ref p1) (dS .out) := SpotAt.im (s := .out) (Ti.of s2 _ _ t1)
  refine ⟨.int n, rfl, p2, n, [.ref p1], ⟨rfl, rfl⟩, t2.sq, by simp, ⟨by omega, by omega, by simp⟩, fun e => ?_, fun _ => nT_q fun H3 p3 s3 t3 => ?_⟩
  · obtain rfl : n = 1 := by omega
    exact q H2 p2 (s1.trans s2) ⟨_, t2, .cons io .nil⟩
  · rw [Int.toNat_natCast, flatten_one] at t3
    exact q H3 p3 ((s1.trans s2).trans s3) ⟨_, t3, (im_same io n).mono (Ti.of s3)⟩
/-! ### one spot's moves, with how many it holds -/
def spTracksFrom (K : PySem.W.Frag) : Sp := fun vs H Q _ => ∃ a p k ln r sp, vs = [.ref a, .str (wS r), .ref p, .int ((k : Nat) : Int)] ∧ LaneAt K H a ln ∧ SpotAt H p sp ∧ okSpot ln sp ∧ ∀ H' l, Same H H' → H l = none → TriesAt H' (.ref l) ln r sp k → Q (.ref l) H'
theorem ok_tracksFrom (T : Txt K mg) : DefOk P w K mg base 3 "tracks_from" ["lane", "way", "spot", "train"] (spTracksFrom K) := by
  have D_tries : DefOk P w K mg base 2 "tries" ["lane", "way", "spot", "train"] (spTries K) := ok_tries T
  have D_mostAt : DefOk P w K mg base 1 "most_at" ["lane", "spot"] (spMostAt K) := ok_mostAt T
  refine T.f_tracksFrom.ok sc_tracksFrom (fun vs H Q E h => by obtain ⟨a, p, k, ln, r, sp, rfl, _⟩ := h; rfl) (fun f cdv A outer s H vs Q E hr h => ?_)
  obtain ⟨a, p, k, ln, r, sp, rfl, hL, hp, ok, q⟩ := h
  refine ⟨_, (pss_one (ps_ret (pe_lc (g := gTup K 2 (gCons (gName 4) (gCons (gName 5) gNil))) (own := [("move", 4), ("then", 5)]) rfl sc_tracksFrom.nd (pi_listK (K := K) (pe_def D_tries (hr.mono (by omega)) (pa_cons (pv 0) (pa_cons (pv 1) (pa_cons (pv 2) (pa_cons (pv 3) pa_nil)))))) (blkOk_by (own := [("move", 4), ("then", 5)]) (N := ["lane", "way", "spot", "train", "move", "then"]) (sc := defScope s_tracksFrom) (by decide +kernel)) (fun _ _ _ _ _ => (pg_tup rfl (pgs_cons (pg_name (i := 4) sc_tracksFrom.nd rfl (.inl rfl)) (pgs_cons (pg_name (i := 5) sc_tracksFrom.nd rfl (.inl rfl)) pgs_nil)))) (fun _ _ _ _ _ => pts_nil) (fun _ _ _ _ _ => (pe_tupF (pa_cons (pv 4) (pa_cons (pv 5) (pa_cons (pe_def D_mostAt (hr.mono (by omega)) (pa_cons (pv 0) (pa_cons (pv 5) pa_nil))) pa_nil)))))))), ?_⟩
  refine ⟨.ref a, rfl, .str (wS r), rfl, .ref p, rfl, .int k, rfl, a, p, k, ln, r, sp, rfl, hL, hp, ok, fun H1 l1 ys s1 hl1 el1 il1 => ⟨l1, rfl, ⟨_, .inl (.inl el1)⟩, fun D hD => ?_⟩⟩
  have ly : ys.length = (triesOf ln r sp k).length := by rw [il1.length, List.length_map]
  have l2 := tries_len ln r sp k
  refine lc_map (walk_list (K := K) (a := l1) (xs := ys)) (fun i y G => ∃ c, (triesOf ln r sp k)[i]? = some c ∧ Im G y (dTri ln c)) (fun i y G G' tt e => by obtain ⟨c, h1, h2⟩ := e; exact ⟨c, h1, h2.mono tt⟩) (Nat.lt_of_le_of_lt (by omega : _ ≤ 2) (by decide)) hD (fun G s => .inl (.inl (s _ _ el1)))
    (fun i x G G' kk hi sm y hk => ?_) (fun G zs sm eD lz el => ?_)
  · obtain ⟨rfl, ex⟩ := y
    obtain ⟨d, ed, imd⟩ := il1.getV ex
    rw [List.getElem?_map] at ed
    cases ech : (triesOf ln r sp k)[i]? with
    | none => rw [ech] at ed; cases ed
    | some ch =>
      rw [ech] at ed
      cases ed
      have s2 := s1.trans sm
      obtain ⟨t, u1, u2, rfl, tt, i1, i2⟩ := im_two (Im.mono (Ti.of sm) imd)
      obtain ⟨ts, rfl, hsp⟩ := im_spot i2
      refine ⟨t, _, rfl, tt.sq, rfl, _, _, rfl, _, _, rfl, rfl, rfl, ?_⟩
      refine ⟨u1, rfl, .ref ts, rfl, .ref a, rfl, .ref ts, rfl, a, ln, ts, ch.2, rfl, s2.seq hL, hsp, tries_ok ok (mem_of_some ech), three_size, nT_q fun G3 t3 s3 h3 => ?_⟩
      exact hk _ _ s3 ⟨ch, ech, .tup h3 (.cons (i1.mono (Ti.of s3)) (.cons (SpotAt.im (Ti.of s3 _ _ hsp)) (.cons (.int _) .nil)))⟩
  · refine q G _ (s1.trans sm) (s1.free hD) ⟨D, zs, rfl, eD, ImAll.of (by rw [lz, ly, List.length_map]) fun i v d hv hd => ?_⟩
    obtain ⟨c, h1, h2⟩ := el i v hv
    rw [List.getElem?_map, h1] at hd
    cases hd
    exact h2
end
end Slx

set_option Elab.async false
set_option linter.all false
set_option maxRecDepth 100000
set_option maxHeartbeats 4000000
namespace Slx
open PySem PySem.Spec PyProof.Rows L2 Sl
def wordNo : Nat → Str
  | 0 => "lane"
  | _ => "side"
def spotNoW : Nat → Nat → Spot
  | 0, p => .lane p
  | _, p => .side p
theorem vS_no (i p : Nat) : vS (spotNoW i p) = [.str (wordNo i), .int p] := by cases i <;> rfl
def spotsTo (n i : Nat) : List Spot := (List.range i).flatMap fun k => (List.range n).map (spotNoW k)
theorem spotsTo_two (n : Nat) : spotsTo n 2 = spotsOf n := by
  show ((List.range n).map (spotNoW 0)) ++ (((List.range n).map (spotNoW 1)) ++ []) = _
  rw [List.append_nil]
  rfl
theorem spotsTo_len (n : Nat) : ∀ i, (spotsTo n i).length = i * n
  | 0 => by simp [spotsTo]
  | i + 1 => by
    have ih := spotsTo_len n i
    unfold spotsTo at *
    rw [List.range_succ, List.flatMap_append, List.length_append, ih]
    simp
    rw [Nat.succ_mul]
/-- the same, none of its lists at av -/
def TrackOff (P : Program) (w : World) (H : Hp) (d : Addr) (ln : List Int) (r : Bool) (k : Nat) (av : Addr) : Prop := ∃ ks, DN P w H d ks ∧ ∀ sp, okSpot ln sp → ∃ l, valN ks (kSp sp) = some (.ref l) ∧ l ≠ av ∧ TriesAt H (.ref l) ln r sp k
theorem TrackOff.same {P : Program} {w : World} {H H' : Hp} {d av : Addr} {ln : List Int} {r : Bool} {k : Nat} (s : Same H H') (h : TrackOff P w H d ln r k av) : TrackOff P w H' d ln r k av := by
  obtain ⟨ks, dn, f⟩ := h
  exact ⟨ks, dn.same s, fun sp ok => by
    obtain ⟨l, e, n, t⟩ := f sp ok
    exact ⟨l, e, n, t.same s⟩⟩
theorem TrackOff.grow {P : Program} {w : World} {H : Hp} {d av : Addr} {ln : List Int} {r : Bool} {k : Nat} {xs ys : List V} (h : TrackOff P w H d ln r k av) (e : H av = some (.lst xs)) : TrackOff P w (upd H av (.lst ys)) d ln r k av := by
  obtain ⟨ks, dn, f⟩ := h
  refine ⟨ks, dn.lst e, fun sp ok => ?_⟩
  obtain ⟨l, e1, n, l', zs, e2, el, im⟩ := f sp ok
  cases e2
  exact ⟨l, e1, n, l, zs, rfl, by rw [upd_ne n]; exact el, im.mono (Ti.lst e)⟩
theorem TrackOff.at {P : Program} {w : World} {H : Hp} {d av : Addr} {ln : List Int} {r : Bool} {k : Nat} (h : TrackOff P w H d ln r k av) : TrackAt P w H d ln r k := by
  obtain ⟨ks, dn, f⟩ := h
  exact ⟨ks, dn, fun sp ok => by
    obtain ⟨l, e, _, t⟩ := f sp ok
    exact ⟨_, e, t⟩⟩
section
variable {P : Program} {w : World} {K : PySem.W.Frag} {mg : Str → Option Value} {base : Heap}
def spAllTracks (P : Program) (w : World) (K : PySem.W.Frag) : Sp := fun vs H Q _ => ∃ a b ln wy, vs = [.ref a, .ref b] ∧ LaneAt K H a ln ∧ WaysAt K H b wy ∧ (OkLane ln ∧ wy.length ≤ 6) ∧ ∀ H' t, Same H H' → H t = none → TracksAt P w H' t ln wy → (∀ ys av, H' t = some (.lst ys) → V.ref av ∈ ys → H av = none) → Q (.ref t) H'
theorem ok_allTracks (T : Txt K mg) : DefOk P w K mg base 4 "all_tracks" ["lane", "ways"] (spAllTracks P w K) := by
  have D_tracksFrom : DefOk P w K mg base 3 "tracks_from" ["lane", "way", "spot", "train"] (spTracksFrom K) := ok_tracksFrom T
  refine T.f_allTracks.ok sc_allTracks (fun vs H Q E h => by obtain ⟨a, b, ln, wy, rfl, _⟩ := h; rfl) (fun f cdv A outer s H vs Q E hr h => ?_)
  obtain ⟨a, b, ln, wy, rfl, hL, hW, ⟨okl, w6⟩, q⟩ := h
  have n1 := okl.one
  have n8 := okl.most
  refine ⟨_, (pss_cons (ps_set (i := 2) sc_allTracks.nd rfl (.inr rfl) (pe_callTy cr_rng1 (by rfl) T.b_range (by decide +kernel) (pa_cons (pe_callB call_len_seq (by rfl) T.b_len (by decide +kernel) (pa_cons (pv 0) pa_nil)) pa_nil)))
      (pss_cons (ps_set (i := 5) sc_allTracks.nd rfl (.inr rfl) (pe_op op_cat (pe_lc2 (vs1 := [4]) (g := gName 3) (g1 := gName 4) (own := [("word", 3), ("place", 4)]) rfl sc_allTracks.nd (pi_tupK (K := K) (pe_tupF (pa_cons pe_str (pa_cons pe_str pa_nil)))) (blkOk_by (own := [("word", 3), ("place", 4)]) (N := ["lane", "ways", "places", "word", "place", "spots", "train", "way", "spot"]) (sc := defScope s_allTracks) (by decide +kernel)) (by decide) (fun _ _ _ _ _ => (pg_name (i := 3) sc_allTracks.nd rfl (.inl rfl))) (fun _ _ _ _ _ => pts_nil) (fun _ _ _ _ _ => (pi_rngV (pv 2))) (fun _ _ _ _ _ => (pg_name (i := 4) sc_allTracks.nd rfl (.inl rfl))) (fun _ _ _ _ _ => pts_nil) (fun _ _ _ _ _ => (pe_tupF (pa_cons (pv 3) (pa_cons (pv 4) pa_nil))))) (pe_lst (pa_cons (pe_tupF (pa_cons pe_str pa_nil)) pa_nil))))
      (pss_one (ps_ret (pe_lc (g := gTup K 2 (gCons (gName 6) (gCons (gName 7) gNil))) (own := [("train", 6), ("way", 7)]) rfl sc_allTracks.nd (pi_enumK (by rfl) T.b_enumerate (pa_cons (pv 1) pa_nil)) (blkOk_by (own := [("train", 6), ("way", 7)]) (N := ["lane", "ways", "places", "word", "place", "spots", "train", "way", "spot"]) (sc := defScope s_allTracks) (by decide +kernel)) (fun _ _ _ _ _ => (pg_tup rfl (pgs_cons (pg_name (i := 6) sc_allTracks.nd rfl (.inr rfl)) (pgs_cons (pg_name (i := 7) sc_allTracks.nd rfl (.inr rfl)) pgs_nil)))) (fun _ _ _ _ _ => pts_nil) (fun _ _ _ _ _ => (pe_dcN (P := P) (w := w) (g := gName 8) (own := [("spot", 8)]) (hu9 hr) rfl sc_allTracks.nd (pi_listK (K := K) (pv 5)) (blkOk_by (own := [("spot", 8)]) (N := ["lane", "ways", "places", "word", "place", "spots", "train", "way", "spot"]) (sc := relS (scOf (partOf ((defBody s_allTracks).getD 2 noStmt))) (defScope s_allTracks)) (by decide +kernel)) (fun _ _ _ _ _ => (pg_name (i := 8) sc_allTracks.nd rfl (.inl rfl))) (fun _ _ _ _ _ => pts_nil) (fun _ _ _ _ _ => (pv 8)) (fun _ _ _ _ _ => (pe_def D_tracksFrom (hr.mono (by omega)) (pa_cons (pv 0) (pa_cons (pv 7) (pa_cons (pv 8) (pa_cons (pv 6) pa_nil))))))))))))), ?_⟩
  refine ⟨.ref a, rfl, a, _, rfl, .inl hL, _, rfl, fun g hg => ?_⟩
  rw [List.length_map]
  have s1 := same_new (o := .rng 0 (ln.length : Int)) hg
  have eg : (upd H g (.rng 0 (ln.length : Int))) g = some (.rng 0 (ln.length : Int)) := upd_same
  generalize upd H g (.rng 0 (ln.length : Int)) = H1 at s1 eg
  -- the spots
  refine ⟨two_size, nT_q fun H2 p2 s2 t2 => ⟨p2, rfl, ⟨_, t2.sq⟩, fun D hD => ?_⟩⟩
  refine lc2_it (walk_tup (K := K) (a := p2) (xs := [.str "lane", .str "side"])) (fun i G => Same H2 G ∧ ∃ acc, G D = some (.lst acc) ∧ ImAll G acc ((spotsTo ln.length i).map dS)) ⟨same_new hD, [], upd_same, .nil⟩ (fun i G _ pv => (Ti.of pv.1 _ _ t2).sq) (fun i x G G' hi pv y => ?_) (fun G pv => ?_)
  · obtain ⟨sm, acc, ea, ia⟩ := pv
    obtain ⟨rfl, ex⟩ := y
    have ew : x = .str (wordNo i) := by
      have hi2 : i < 2 := hi
      rcases (show i = 0 ∨ i = 1 by omega) with rfl | rfl
      · exact (Option.some.inj ex).symm
      · exact (Option.some.inj ex).symm
    have hi2 : i < 2 := hi
    subst ew
    refine ⟨rfl, .ref g, rfl, g, 0, ln.length, rfl, (s2.trans sm) _ _ eg, ⟨by omega, by omega, by omega, by omega⟩, ?_⟩
    rw [show ((ln.length : Int) - 0).toNat = ln.length by omega]
    refine in_it (walk_range (lo := 0) (n := ln.length)) (fun j U => Same H2 U ∧ ∃ acc, U D = some (.lst acc) ∧ ImAll U acc ((spotsTo ln.length i ++ (List.range j).map (spotNoW i)).map dS)) ⟨sm, acc, ea, by simpa using ia⟩ (fun _ _ _ _ => trivial) (fun j x U U' hj pv y => ?_) (fun U pv => ?_)
    · obtain ⟨su, ac2, eu, iu⟩ := pv
      obtain ⟨rfl, rfl⟩ := y
      refine ⟨rfl, .str (wordNo i), rfl, .int (0 + (j : Int)), rfl, two_size, nT_q fun U3 t3 s3 h3 => ⟨ac2, s3 _ _ eu, ?_, ?_⟩⟩
      · have := iu.length
        rw [List.length_map, List.length_append, spotsTo_len, List.length_map, List.length_range] at this
        have z : i * ln.length ≤ 1 * 8 := Nat.mul_le_mul (by omega) n8
        exact Nat.lt_of_le_of_lt (by omega : _ ≤ 16) (by decide)
      · have tl := Ti.lst (o := .lst (ac2 ++ [.ref t3])) (s3 _ _ eu)
        refine ⟨same_mut (su.trans s3) hD, _, upd_same, ?_⟩
        rw [List.range_succ, List.map_append (f := spotNoW i), ← List.append_assoc, List.map_append]
        refine (iu.mono ((Ti.of s3).trans tl)).append (.cons (SpotAt.im (tl _ _ ?_)) .nil)
        show TupAt U3 t3 (vS (spotNoW i j))
        rw [vS_no, ← show (0 : Int) + (j : Int) = (j : Int) by omega]
        exact h3
    · obtain ⟨su, ac2, eu, iu⟩ := pv
      refine ⟨su, ac2, eu, ?_⟩
      have e : spotsTo ln.length (i + 1) = spotsTo ln.length i ++ (List.range ln.length).map (spotNoW i) := by
        unfold spotsTo
        rw [List.range_succ, List.flatMap_append]
        simp
      rw [e]
      exact iu
  obtain ⟨sm, acc, ea, ia⟩ := pv
  rw [show ([V.str "lane", V.str "side"] : List V).length = 2 from rfl, spotsTo_two] at ia
  refine ⟨one_size, nT_q fun G2 p3 s3 t3 => ⟨one_size, fun l3 hl3 => ?_⟩⟩
  have s4 := s3.trans (same_new (o := .lst [.ref p3]) hl3)
  have la : acc.length = 2 * ln.length := by rw [ia.length, List.length_map]; unfold spotsOf; simp; omega
  refine ⟨D, l3, acc, [.ref p3], rfl, rfl, s4 _ _ ea, upd_same, ?_, fun L hLn => ?_⟩
  · rw [la]
    exact Nat.le_of_lt (Nat.lt_of_le_of_lt (by simp; omega : _ ≤ 17) (by decide))
  have s5 := s4.trans (same_new (o := .lst (acc ++ [.ref p3])) hLn)
  have iL : ImAll (upd (upd G2 l3 (.lst [.ref p3])) L (.lst (acc ++ [.ref p3]))) (acc ++ [.ref p3]) ((allSpots ln.length).map dS) := by
    unfold allSpots
    rw [List.map_append]
    exact (ia.mono (Ti.of s5)).append (.cons ((SpotAt.im (s := .out) t3).mono ((Ti.new hl3).trans (Ti.new hLn))) .nil)
  have eL : (upd (upd G2 l3 (.lst [.ref p3])) L (.lst (acc ++ [.ref p3]))) L = some (.lst (acc ++ [.ref p3])) := upd_same
  have s15 := ((s1.trans s2).trans sm).trans s5
  generalize upd (upd G2 l3 (.lst [.ref p3])) L (.lst (acc ++ [.ref p3])) = U0 at s15 iL eL
  generalize acc ++ [.ref p3] = spv at iL eL
  clear s5 s4 ea ia
  have lsp : spv.length = 2 * ln.length + 1 := by rw [iL.length, List.length_map, spots_len]
  -- a dict for each train
  refine ⟨.ref b, rfl, b, _, rfl, s15.seq hW, fun D2 hD2 => ?_⟩
  refine lc_it (walk_enum (K := K) (a := b) (xs := wy.map fun b => V.str (wS b))) (fun i U => Same U0 U ∧ ∃ ys, U D2 = some (.lst ys) ∧ ys.length = i ∧ ∀ (k : Nat) (y : V) (r : Bool), ys[k]? = some y → wy[k]? = some r → ∃ d, y = .ref d ∧ H d = none ∧ TrackOff P w U d ln r k D2)
    ⟨same_new hD2, [], upd_same, rfl, fun k y r h => by simp at h⟩ (fun i U _ pv => (s15.trans pv.1).seq hW) (fun i x U U' hi pv y => ?_) (fun U pv => ?_)
  · obtain ⟨su, ys, ey, ly, tr⟩ := pv
    obtain ⟨Tp, x1, x2, rfl, nT, rfl, f1, f2⟩ := y
    cases f1
    have f2 : (wy.map fun b => V.str (wS b))[i]? = some x2 := f2
    rw [List.getElem?_map] at f2
    cases ewy : wy[i]? with
    | none => rw [ewy] at f2; cases f2
    | some r =>
    rw [ewy] at f2
    cases f2
    have s6 := su.trans (same_new (o := .tup [.int (i : Nat), .str (wS r)]) nT)
    have ey6 := same_new (o := .tup [.int (i : Nat), .str (wS r)]) nT _ _ ey
    have tr6 : ∀ (k : Nat) (y : V) (r' : Bool), ys[k]? = some y → wy[k]? = some r' → ∃ d, y = .ref d ∧ H d = none ∧ TrackOff P w (upd U Tp (.tup [.int (i : Nat), .str (wS r)])) d ln r' k D2 := fun k y r' h1 h2 => by
      obtain ⟨d, e, n, t⟩ := tr k y r' h1 h2
      exact ⟨d, e, n, t.same (same_new nT)⟩
    refine ⟨Tp, _, rfl, .inl (.inl upd_same), rfl, _, _, rfl, _, _, rfl, rfl, rfl, ?_⟩
    generalize upd U Tp (.tup [.int (i : Nat), .str (wS r)]) = U1 at s6 ey6 tr6
    refine ⟨.ref L, rfl, L, rfl, ⟨_, .inl (.inl (s6 _ _ eL))⟩, fun D3 hD3 => ?_⟩
    have hD30 : U0 D3 = none := s6.free hD3
    refine dcN_it (walk_list (K := K) (a := L) (xs := spv)) (fun j Z => Same U1 Z ∧ ∃ ks, DN P w Z D3 ks ∧ ks.map (·.1) = ((allSpots ln.length).take j).map kSp ∧ ∀ (m : Nat) (e : Ent), ks[m]? = some e → ∃ sp l, (allSpots ln.length)[m]? = some sp ∧ e.1 = kSp sp ∧ e.2.2 = .ref l ∧ l ≠ D2 ∧ TriesAt Z (.ref l) ln r sp i)
      ⟨same_new hD3, [], ⟨upd_same, fun _ z => nomatch z⟩, rfl, fun m e z => by simp at z⟩ (fun j Z _ pz => .inl (.inl ((s6.trans pz.1) _ _ eL))) (fun j x Z Z' hj pz y => ?_) (fun Z pz => ?_)
    · obtain ⟨sz, ks, dn, ek, tz⟩ := pz
      obtain ⟨rfl, ex⟩ := y
      have s7 := s6.trans sz
      obtain ⟨d, ed, imd⟩ := (iL.mono (Ti.of s7)).getV ex
      rw [List.getElem?_map] at ed
      cases esp : (allSpots ln.length)[j]? with
      | none => rw [esp] at ed; cases ed
      | some sp =>
      rw [esp] at ed
      cases ed
      obtain ⟨ps, rfl, hsp⟩ := im_spot imd
      have oksp := spots_ok (mem_of_some esp)
      refine ⟨rfl, .ref ps, rfl, .ref a, rfl, .str (wS r), rfl, .ref ps, rfl, .int (i : Nat), rfl, a, ps, i, ln, r, sp, rfl, (s15.trans s7).seq hL, hsp, oksp, fun Z2 l sv fl tl => ?_⟩
      have dn2 := dn.same sv
      have key : KeyAt Z2 ps (kSp sp) := ⟨by rw [kSp_data]; exact SpotAt.im (Ti.of sv _ _ hsp), by rw [kSp_depth]; decide⟩
      have lk : ks.length = j := by
        have := congrArg List.length ek
        rw [List.length_map, List.length_map, List.length_take, spots_len] at this
        omega
      have fresh : (valN ks (kSp sp)).isSome = false := by
        have e : valN ks (kSp sp) = none := by
          rw [val_none, ek]
          intro hin
          obtain ⟨m, hm⟩ := List.mem_iff_getElem?.mp hin
          have hm' := hm
          rw [List.getElem?_map, List.getElem?_take] at hm'
          by_cases hmj : m < j
          · rw [if_pos hmj] at hm'
            have nd := spots_nodup ln.length
            have e1 : ((allSpots ln.length).map kSp)[m]? = some (kSp sp) := by rw [List.getElem?_map]; exact hm'
            have e2 : ((allSpots ln.length).map kSp)[j]? = some (kSp sp) := by rw [List.getElem?_map, esp]; rfl
            have := (List.getElem?_inj (by rw [List.length_map, spots_len]; omega) nd).mp (e1.trans e2.symm)
            omega
          · rw [if_neg hmj] at hm'
            cases hm'
        rw [e]
        rfl
      have nl : l ≠ D2 := fun e => by rw [e, sz _ _ ey6] at fl; cases fl
      refine ⟨ps, ks, kSp sp, rfl, dn2, ⟨key, Nat.lt_of_le_of_lt (by omega : _ ≤ 17) (by decide)⟩, ?_⟩
      have dn3 := dn2.put (.ref l) key
      have new := put_new (b := ps) (v := .ref l) fresh
      have sD : Same U1 (upd Z2 D3 (dNO P w D3 (putN ks (kSp sp) ps (.ref l)))) := same_mut (sz.trans sv) hD3
      have stay : ∀ {u : V} {sp' : Spot}, TriesAt Z2 u ln r sp' i → TriesAt (upd Z2 D3 (dNO P w D3 (putN ks (kSp sp) ps (.ref l)))) u ln r sp' i := fun {u sp'} t => by
        obtain ⟨l, zs, e, el, im⟩ := t
        exact ⟨l, zs, e, by rw [upd_ne (fun z => by subst z; rw [dn2.at_] at el; cases el)]; exact el, im.mono (Ti.dict dn2.at_)⟩
      refine ⟨sD, _, dn3, ?_, fun m e he => ?_⟩
      · rw [new, List.map_append, ek, List.take_add_one, esp, List.map_append]
        rfl
      · rw [new] at he
        by_cases hm : m < ks.length
        · rw [List.getElem?_append_left hm] at he
          obtain ⟨sp', l', h1, h2, h3, h4, h5⟩ := tz m e he
          exact ⟨sp', l', h1, h2, h3, h4, stay (h5.same sv)⟩
        · have hm2 : m = ks.length := by
            have := lt_of_some he
            simp at this
            omega
          subst hm2
          simp at he
          subst he
          exact ⟨sp, l, by rw [lk]; exact esp, rfl, rfl, nl, stay tl⟩
    · obtain ⟨sz, ks, dn, ek, tz⟩ := pz
      have full : ks.map (·.1) = (allSpots ln.length).map kSp := by rw [ek, List.take_of_length_le (by rw [spots_len]; omega)]
      have nk : (ks.map (·.1)).Nodup := by rw [full]; exact spots_nodup _
      have s7 := s6.trans sz
      have hyD : D2 ≠ D3 := fun e => by rw [← e, ey6] at hD3; cases hD3
      refine ⟨ys, sz _ _ ey6, Nat.lt_of_le_of_lt (by rw [List.length_map] at hi; omega : _ ≤ 6) (by decide), ?_⟩
      have eD2 := sz _ _ ey6
      refine ⟨same_mut s7 hD2, _, upd_same, by rw [List.length_append, ly]; rfl, fun k y r' h1 h2 => ?_⟩
      by_cases hk : k < ys.length
      · rw [List.getElem?_append_left hk] at h1
        obtain ⟨d, e, n, t⟩ := tr6 k y r' h1 h2
        exact ⟨d, e, n, (t.same sz).grow eD2⟩
      · have hk2 : k = ys.length := by
          have := lt_of_some h1
          simp at this
          omega
        subst hk2
        simp at h1
        subst h1
        rw [ly, ewy] at h2
        cases h2
        have t : TrackOff P w Z D3 ln r i D2 := ⟨ks, dn, fun sp ok => by
          obtain ⟨m, hm⟩ := List.mem_iff_getElem?.mp (spots_all ok)
          have lks : ks.length = (allSpots ln.length).length := by
            have := congrArg List.length full
            simpa using this
          have hmk : m < ks.length := by rw [lks]; exact lt_of_some hm
          obtain ⟨sp', l, h1, h2, h3, h4, h5⟩ := tz m ks[m] (List.getElem?_eq_getElem hmk)
          rw [hm] at h1
          cases h1
          have va := val_at nk (List.getElem?_eq_getElem hmk)
          rw [h2, h3] at va
          exact ⟨l, va, h4, h5⟩⟩
        rw [ly]
        exact ⟨D3, rfl, s15.free hD30, t.grow eD2⟩
  · obtain ⟨su, ys, ey, ly, tr⟩ := pv
    rw [List.length_map] at ly
    exact q U D2 (s15.trans su) (s15.free hD2) ⟨ys, ey, ly, fun k y r h1 h2 => by
      obtain ⟨d, e, _, t⟩ := tr k y r h1 h2
      exact ⟨d, e, t.at⟩⟩ fun zs av hz hin => by
      rw [ey] at hz
      cases hz
      obtain ⟨k, hk⟩ := List.mem_iff_getElem?.mp hin
      obtain ⟨d, e, n, _⟩ := tr k _ (wy.getD k true) hk (getD_lt (by have := lt_of_some hk; omega))
      cases e
      exact n
end
end Slx

set_option Elab.async false
set_option linter.all false
set_option maxRecDepth 100000
set_option maxHeartbeats 1000000
namespace Slx
open PySem PySem.Spec PyProof.Rows L2 Sl
theorem tries_no {ln : List Int} {r : Bool} {sp : Spot} {k : Nat} {c : Mv × Spot} (hc : c ∈ triesOf ln r sp k) : c.1.2 = k := by
  cases sp with
  | out => cases hc
  | lane p =>
    rcases List.mem_cons.mp hc with e | hc
    · subst e; rfl
    · rw [List.mem_singleton.mp hc]
  | side p => rw [List.mem_singleton.mp hc]
/-- what a target has stored is wiped with the rest -/
theorem wipe_sets {τ : L2.St} {i : Nat} {x : Option V} : ∀ {vs : List Nat}, (i ∈ vs → wipe (τ.set i x) vs = wipe τ vs) ∧ (i ∉ vs → wipe (τ.set i x) vs = (wipe τ vs).set i x)
  | [] => ⟨fun h => (by simp at h), fun _ => rfl⟩
  | v :: vs => by
    obtain ⟨h1, h2⟩ := wipe_sets (τ := τ) (i := i) (x := x) (vs := vs)
    refine ⟨fun h => ?_, fun h => ?_⟩
    · show (wipe (τ.set i x) vs).set v none = (wipe τ vs).set v none
      by_cases hi : i ∈ vs
      · rw [h1 hi]
      · rw [h2 hi]
        rcases List.mem_cons.mp h with e | h
        · subst e
          rw [List.set_set]
        · exact absurd h hi
    · show (wipe (τ.set i x) vs).set v none = ((wipe τ vs).set v none).set i x
      have n1 : i ≠ v := fun e => h (by rw [e]; simp)
      rw [h2 fun z => h (by simp [z]), List.set_comm _ _ n1]
theorem wipe_set {τ : L2.St} {i : Nat} {x : Option V} {vs : List Nat} (h : i ∈ vs) : wipe (τ.set i x) vs = wipe τ vs := wipe_sets.1 h
/-- the inner for of a comprehension with two, with a test; τ: the slots, its own wiped -/
theorem in_itT {J : It} {n : Nat} {G : Hp → Prop} {Y : Nat → Hp → V → Hp → Prop} (w : Walk J n G Y) {g : TG} {tt : TT} {te : TE} {vs : List Nat} {σ : L2.St} {H1 : Hp} {D : Addr} {Nx : Hp → Prop} (τ : L2.St) (hτ : wipe σ vs = τ) (Pv : Nat → Hp → Prop) (h0 : Pv 0 H1) (hG : ∀ i H, i ≤ n → Pv i H → G H)
    (hs : ∀ i x H H', i < n → Pv i H → Y i H x H' → g x τ H' fun σ2 H2 => wipe σ2 vs = τ ∧ tt σ2 H2 fun b H3 =>
      if b = true then te σ2 H3 fun y H4 => ∃ acc, H4 D = some (.lst acc) ∧ acc.length < sizeLine ∧ Pv (i + 1) (upd H4 D (.lst (acc ++ [y]))) else Pv (i + 1) H3) (hd : ∀ H, Pv n H → Nx H) :
    ∃ Inv_ : Nat → Nat → Hp → Prop, (∃ m, Inv_ 0 m H1) ∧ ∀ i m H, Inv_ i m H → (J.stop i H ∧ Nx H) ∨ (J.go i H ∧ ∃ Next : Hp → Prop, (∀ G, Next G → ∃ m', m' < m ∧ Inv_ (i + 1) m' G) ∧ ∀ x G, J.yld i H x G → g x (wipe σ vs) G fun σ2 H2 => wipe σ2 vs = wipe σ vs ∧
      tt σ2 H2 fun b H3 => if b = true then te σ2 H3 fun y H4 => ∃ acc, H4 D = some (.lst acc) ∧ acc.length < sizeLine ∧ Next (upd H4 D (.lst (acc ++ [y]))) else Next H3) := by
  subst hτ
  refine ⟨fun i m H => (m = n - i ∧ i ≤ n) ∧ Pv i H, ⟨n, ⟨by simp, Nat.zero_le _⟩, h0⟩, ?_⟩
  rintro i m H ⟨⟨rfl, le⟩, p⟩
  rcases Nat.lt_or_eq_of_le le with lt | rfl
  · exact .inr ⟨w.goes i H lt (hG i H le p), Pv (i + 1), fun G p' => ⟨n - (i + 1), by omega, ⟨rfl, lt⟩, p'⟩, fun x G y => hs i x H G lt p (w.yields i H x G lt (hG i H le p) y)⟩
  · exact .inl ⟨w.stops H (hG _ H le p), hd H p⟩
/-- the outer one, likewise -/
theorem lc2_itE {J : It} {n : Nat} {G : Hp → Prop} {Y : Nat → Hp → V → Hp → Prop} (w : Walk J n G Y) {g : TG} {vs : List Nat} {σ : L2.St} {H1 : Hp} {D : Addr} {Qd : Hp → Prop} {B : L2.St → Hp → (Hp → Prop) → Prop} (τ : L2.St) (hτ : wipe σ vs = τ) (Pv : Nat → Hp → Prop)
    (h0 : Pv 0 (upd H1 D (.lst []))) (hG : ∀ i H, i ≤ n → Pv i H → G H)
    (hs : ∀ i x H H', i < n → Pv i H → Y i H x H' → g x τ H' fun σ2 H2 => wipe σ2 vs = τ ∧ tYes σ2 H2 fun b H3 => if b = true then B σ2 H3 (Pv (i + 1)) else Pv (i + 1) H3) (hd : ∀ H, Pv n H → Qd H) :
    ∃ Inv_ : Nat → Nat → Hp → Prop, (∃ m, Inv_ 0 m (upd H1 D (.lst []))) ∧ ∀ i m H, Inv_ i m H → (J.stop i H ∧ Qd H) ∨
      (J.go i H ∧ ∃ Next : Hp → Prop, (∀ G, Next G → ∃ m', m' < m ∧ Inv_ (i + 1) m' G) ∧ ∀ x G, J.yld i H x G → g x (wipe σ vs) G fun σ2 H2 => wipe σ2 vs = wipe σ vs ∧ tYes σ2 H2 fun b H3 => if b = true then B σ2 H3 Next else Next H3) := by
  subst hτ
  exact lc2_it w Pv h0 hG hs hd
section
variable {P : Program} {w : World} {K : PySem.W.Frag} {mg : Str → Option Value} {base : Heap}
def spSteps (P : Program) (w : World) (K : PySem.W.Frag) : Sp := fun vs H Q _ => ∃ t c ln wy S, vs = [.ref t, .ref c] ∧ TracksAt P w H t ln wy ∧ StandAt H c S ∧ OkStand ln wy S ∧
  ∀ H' p xs, Same H H' → H p = none → H' p = some (.lst xs) → ImAll H' xs ((allPairs ln wy S).map (dPr S)) → Q (.ref p) H'
theorem ok_steps (T : Txt K mg) : DefOk P w K mg base 1 "steps" ["tracks", "stand"] (spSteps P w K) := by
  refine T.f_steps.ok sc_steps (fun vs H Q E h => by obtain ⟨t, c, ln, wy, S, rfl, _⟩ := h; rfl) (fun f cdv A outer s H vs Q E hr h => ?_)
  obtain ⟨t, c, ln, wy, S, rfl, hT, hS, ok, q⟩ := h
  refine ⟨_, (pss_one (ps_ret (pe_lc2 (vs1 := [4, 5, 6]) (g := gTup K 2 (gCons (gName 2) (gCons (gName 3) gNil))) (g1 := gTup K 3 (gCons (gName 4) (gCons (gName 5) (gCons (gName 6) gNil)))) (own := [("train", 2), ("spot", 3), ("move", 4), ("then", 5), ("most", 6)]) rfl sc_steps.nd (pi_enumT (by rfl) T.b_enumerate (pa_cons (pv 1) pa_nil)) (blkOk_by (own := [("train", 2), ("spot", 3), ("move", 4), ("then", 5), ("most", 6)]) (N := ["tracks", "stand", "train", "spot", "move", "then", "most"]) (sc := defScope s_steps) (by decide +kernel)) (by decide) (fun _ _ _ _ _ => (pg_tup rfl (pgs_cons (pg_name (i := 2) sc_steps.nd rfl (.inl rfl)) (pgs_cons (pg_name (i := 3) sc_steps.nd rfl (.inl rfl)) pgs_nil)))) (fun _ _ _ _ _ => pts_nil) (fun _ _ _ _ _ => (pi_listK (K := K) (pe_nget (P := P) (w := w) (hu9 hr) (pe_ix (r := rIxL K) ix_list (pv 0) (pv 2) (fun _ _ => rfl)) (pv 3) (fun _ _ => rfl)))) (fun _ _ _ _ _ => (pg_tup rfl (pgs_cons (pg_name (i := 4) sc_steps.nd rfl (.inl rfl)) (pgs_cons (pg_name (i := 5) sc_steps.nd rfl (.inl rfl)) (pgs_cons (pg_name (i := 6) sc_steps.nd rfl (.inl rfl)) pgs_nil))))) (fun _ _ _ _ _ => (pts_one (pt_cmpR op_lt (pe_tm PySem.F.plainAttrs_tuple PySem.F.slot_tuple_count PySem.F.type_tuple_count (r := rCountT K) (mt_countT (hu65 hr)) (pv 1) (pa_cons (pv 5) pa_nil)) (pv 6) (nomark _)))) (fun _ _ _ _ _ => (pe_tupF (pa_cons (pv 4) (pa_cons (pe_op (r := rCatF K) op_catF (pe_op (r := rCatF K) op_catF (pe_slice (r := rSlF K) sl_tupF (pv 1) po_none (po_some (pv 2))) (pe_tupF (pa_cons (pv 5) pa_nil))) (pe_slice (r := rSlF K) sl_tupF (pv 1) (po_some (pe_op op_add (pv 2) pe_int)) po_none)) pa_nil))))))), ?_⟩
  obtain ⟨xs, ec, im⟩ := id hS
  have zl := StandAt.len im
  have z6 := stand_size ok im
  have lw := ok.len
  refine ⟨.ref c, rfl, c, xs, rfl, ec.sq, fun D hD => ?_⟩
  refine lc2_itE (walk_enumT (K := K) (a := c) (xs := xs)) [some (.ref t), some (.ref c), none, none, none, none, none] rfl (fun i G => Same H G ∧ ∃ acc, G D = some (.lst acc) ∧ ImAll G acc (((List.range i).flatMap fun k => choices ln wy S k).map (dPr S))) ⟨same_new hD, [], upd_same, .nil⟩ (fun i G _ pv => (Ti.of pv.1 _ _ ec).sq) (fun i x G G' hi pv y => ?_) (fun G pv => ?_)
  · obtain ⟨sm, acc, ea, ia⟩ := pv
    obtain ⟨Tp, x1, x2, rfl, nT, rfl, f1, f2⟩ := y
    cases f1
    have f2 : xs[i]? = some x2 := f2
    obtain ⟨ps, sp, rfl, esp, hsp⟩ := stand_getV im f2
    have s1 := sm.trans (same_new (o := .tup [.int (i : Nat), .ref ps]) nT)
    have ea1 := same_new (o := .tup [.int (i : Nat), .ref ps]) nT _ _ ea
    have ia1 := ia.mono (Ti.new (o := .tup [.int (i : Nat), .ref ps]) nT)
    refine ⟨Tp, _, rfl, .inl (.inl upd_same), rfl, _, _, rfl, _, _, rfl, rfl, rfl, ?_⟩
    generalize upd G Tp (.tup [.int (i : Nat), .ref ps]) = G1 at s1 ea1 ia1
    have okp := ok.spot sp (mem_of_some esp)
    have hiS : i < S.length := lt_of_some esp
    obtain ⟨ys, ey, ly, tr⟩ := hT
    have ewy : wy[i]? = some (wy.getD i true) := getD_lt (by omega)
    have hgd : S.getD i .out = sp := by rw [List.getD_eq_getElem?_getD, esp]; rfl
    have ech := choices_tries ln wy S i
    rw [hgd] at ech
    generalize wy.getD i true = r at ewy ech
    obtain ⟨y, eyi⟩ : ∃ y, ys[i]? = some y := ⟨_, List.getElem?_eq_getElem (by omega)⟩
    obtain ⟨d, rfl, ks, dn, tk⟩ := tr i y r eyi ewy
    obtain ⟨v, ev, l, zs, rfl, el0, il0⟩ := tk sp okp
    have nDl : D ≠ l := fun e => by rw [← e, hD] at el0; cases el0
    have el := s1 _ _ el0
    have il := il0.mono (Ti.of s1)
    have hsp1 := Ti.of s1 _ _ hsp
    have key : KeyAt G1 ps (kSp sp) := ⟨by rw [kSp_data]; exact SpotAt.im hsp1, by rw [kSp_depth]; decide⟩
    refine ⟨.ref t, rfl, .int (i : Nat), rfl, t, ys, (i : Int), _, rfl, rfl, .inl (.inl (s1 _ _ ey)), atI_nat eyi, .ref ps, rfl, d, ps, ks, kSp sp, ⟨rfl, rfl⟩, ⟨(dn.same s1).rd, key⟩, _, ev, l, rfl, ⟨_, .inl (.inl el)⟩, ?_⟩
    have lz : zs.length = (triesOf ln r sp i).length := by rw [il.length, List.length_map]
    have l2 := tries_len ln r sp i
    have flat : (List.range (i + 1)).flatMap (fun k => choices ln wy S k) = (List.range i).flatMap (fun k => choices ln wy S k) ++ choices ln wy S i := by
      rw [List.range_succ, List.flatMap_append]; simp
    refine in_itT (walk_list (K := K) (a := l) (xs := zs)) [some (.ref t), some (.ref c), some (.int (i : Nat)), some (.ref ps), none, none, none] rfl (fun j U => Same H U ∧ (U l = some (.lst zs) ∧ Ti G1 U) ∧ ∃ ac2, U D = some (.lst ac2) ∧ ImAll U ac2 ((((List.range i).flatMap fun k => choices ln wy S k) ++ ((triesOf ln r sp i).take j).filter fun c => hasRoom ln S c.2).map (dPr S)))
      ⟨s1, ⟨el, Ti.refl _⟩, acc, ea1, by rw [List.take_zero, List.filter_nil, List.append_nil]; exact ia1⟩ (fun j U _ pv => .inl (.inl pv.2.1.1)) (fun j x U U' hj pv y => ?_) (fun U pv => ?_)
    · obtain ⟨su, ⟨eul, tu⟩, ac2, eu, iu⟩ := pv
      obtain ⟨rfl, ex⟩ := y
      obtain ⟨dd, edd, imd⟩ := il.getV ex
      rw [List.getElem?_map] at edd
      cases ec' : (triesOf ln r sp i)[j]? with
      | none => rw [ec'] at edd; cases edd
      | some ch =>
      rw [ec'] at edd
      cases edd
      obtain ⟨tp, u1, u2, u3, rfl, tt, i1, i2, i3⟩ := im_trip (Im.mono tu imd)
      obtain ⟨ts, rfl, hts⟩ := im_spot i2
      rw [im_int i3] at tt
      have hno := tries_no (mem_of_some ec')
      have tc := Ti.of su _ _ ec
      refine ⟨tp, _, rfl, tt.sq, rfl, _, _, rfl, _, _, rfl, _, _, rfl, rfl, rfl, ?_⟩
      refine ⟨.ref c, rfl, tc.tm, .ref ts, rfl, .ref ts, dS ch.2, S.map dS, rfl, (Im.tup tc (im.mono (Ti.of su))).dp, (SpotAt.im hts).dp, shaped_stand S, shaped_spot ch.2, .int (mostAt ln ch.2), rfl, _, _, rfl, rfl, _, rfl, ?_⟩
      rw [countP_spot, filter_take ec']
      show if decide ((S.count ch.2 : Int) < mostAt ln ch.2) = true then _ else _
      have hr0 : hasRoom ln S ch.2 = decide ((S.count ch.2 : Int) < mostAt ln ch.2) := rfl
      rw [← hr0]
      cases e : hasRoom ln S ch.2 with
      | false =>
        simp only [Bool.false_eq_true, if_false, List.append_nil]
        exact ⟨su, ⟨eul, tu⟩, ac2, eu, iu⟩
      | true =>
        simp only [if_true]
        refine ⟨u1, rfl, ?_⟩
        refine ⟨.ref c, rfl, ?_⟩
        refine ⟨.int (i : Nat), rfl, ?_⟩
        refine ⟨(i : Int), rfl, ?_⟩
        refine slF tc fun H5 p5 s5 t5 => ?_
        rw [cut_to (by omega)] at t5
        refine ⟨.ref ts, rfl, one_size, nT_q fun H6 p6 s6 t6 => catF (Ti.of s6 _ _ t5) t6 (by simp [sizeLine_eq]; omega) fun H7 p7 s7 t7 => ?_⟩
        have s57 := (s5.trans s6).trans s7
        refine ⟨.ref c, rfl, .int (i : Nat), rfl, (i : Int), 1, rfl, rfl, (i : Int) + 1, rfl, ?_⟩
        show rSlF K (.ref c) (some ((i : Int) + 1)) none H7 fun y H2 => rCatF K (.ref p7) y H2 _
        refine slF (Ti.of s57 _ _ tc) fun H8 p8 s8 t8 => ?_
        have t8' : TupAt H8 p8 (xs.drop (i + 1)) := by
          have e2 : cutV xs (some ((i : Int) + 1)) none = xs.drop (i + 1) := by
            have := cut_from (xs := xs) (k := i + 1) (by omega)
            rw [← this]
            congr 2
          rw [← e2]
          exact t8
        refine catF (Ti.of s8 _ _ t7) t8' (by simp [sizeLine_eq]; omega) fun H9 p9 s9 t9 => ?_
        rw [set_parts (by omega)] at t9
        have s59 := (s57.trans s8).trans s9
        refine ⟨two_size, nT_q fun H10 p10 s10 t10 => ⟨ac2, (s59.trans s10) _ _ eu, ?_, ?_⟩⟩
        · have la := iu.length
          rw [List.length_map, List.length_append] at la
          have h1 := flat_len ln wy S i
          have h2 := List.length_filter_le (fun c : Mv × Spot => hasRoom ln S c.2) ((triesOf ln r sp i).take j)
          rw [List.length_take] at h2
          exact Nat.lt_of_le_of_lt (by omega : _ ≤ 1000) (by decide)
        · have tot := s59.trans s10
          have tl := Ti.lst (o := .lst (ac2 ++ [.ref p10])) (tot _ _ eu)
          refine ⟨same_mut (su.trans tot) hD, ⟨by rw [upd_ne (Ne.symm nDl)]; exact tot _ _ eul, (tu.trans (Ti.of tot)).trans tl⟩, _, upd_same, ?_⟩
          rw [← List.append_assoc, List.map_append]
          refine (iu.mono ((Ti.of tot).trans tl)).append (.cons (.tup (tl _ _ t10) (.cons (i1.mono ((Ti.of tot).trans tl)) (.cons ?_ .nil))) .nil)
          have st : StandAt H9 p9 (S.set ch.1.2 ch.2) := by
            rw [hno]
            refine ⟨_, t9, ?_⟩
            rw [List.map_set]
            exact ImAll.set (SpotAt.im (Ti.of s59 _ _ hts)) i (im.mono (Ti.of (su.trans s59)))
          exact (StandAt.mono ((Ti.of s10).trans tl) st).im
    · obtain ⟨su, ⟨eul, tu⟩, ac2, eu, iu⟩ := pv
      refine ⟨su, ac2, eu, ?_⟩
      rw [lz, List.take_length, ← ech] at iu
      rw [flat]
      exact iu
  · obtain ⟨sm, acc, ea, ia⟩ := pv
    rw [zl] at ia
    exact q G D acc sm hD ea ia
end
end Slx

set_option Elab.async false
set_option linter.all false
set_option maxRecDepth 100000
set_option maxHeartbeats 4000000
namespace Slx
open PySem PySem.Spec PyProof.Rows L2 Sl
/-! ### a move as a key; the dict of the moves with the stands behind them -/
def kMv (m : Mv) : NestedKey := .tup [.text (dW m.1), .num m.2]
theorem kMv_data (m : Mv) : (kMv m).data = dM m := rfl
theorem kMv_depth (m : Mv) : (kMv m).depth ≤ 8 := by
  show max 0 (max 0 0) + 1 ≤ 8
  decide
theorem kMv_inj {a b : Mv} (e : kMv a = kMv b) : a = b := by
  unfold kMv at e
  injection e with e
  injection e with e1 e2
  injection e1 with e1
  injection e2 with e2 _
  injection e2 with e2
  exact Prod.ext (dW_inj e1) (by exact_mod_cast e2)
theorem im_moveK {H : Hp} {v : V} {m : Mv} (h : Im H v (dM m)) : ∃ a, v = .ref a ∧ KeyAt H a (kMv m) := by
  cases h with
  | tup e i => exact ⟨_, rfl, .tup e i, kMv_depth m⟩
abbrev Leads (H : Hp) (S : Stand) (e : Ent) (c : Mv × Spot) : Prop := e.1 = kMv c.1 ∧ KeyAt H e.2.1 (kMv c.1) ∧ Im H e.2.2 (dSt (S.set c.1.2 c.2))
theorem ents_moves {K : PySem.W.Frag} {H : Hp} {S : Stand} : ∀ {L : List (Mv × Spot)} {xs : List V}, ImAll H xs (L.map (dPr S)) → ∃ ps es, xs = ps.map V.ref ∧ Paired (fun p (e : Ent) => SqT K H p [.ref e.2.1, e.2.2]) ps es ∧ Paired (Leads H S) es L
  | [], _, h => by
    cases h
    exact ⟨[], [], rfl, .nil, .nil⟩
  | c :: L, _, h => by
    rw [List.map_cons] at h
    cases h with
    | cons h t =>
      obtain ⟨ps, es, rfl, p1, p2⟩ := ents_moves (K := K) t
      obtain ⟨a, u1, u2, rfl, ta, i1, i2⟩ := im_pair h
      obtain ⟨b, rfl, kb⟩ := im_moveK i1
      exact ⟨a :: ps, (kMv c.1, b, u2) :: es, rfl, .cons ta.sq p1, .cons ⟨rfl, kb, i2⟩ p2⟩
theorem leads_keys {H : Hp} {S : Stand} {es : List Ent} {L : List (Mv × Spot)} (p : Paired (Leads H S) es L) : es.map (·.1) = (L.map (·.1)).map kMv := by
  induction p with
  | nil => rfl
  | cons h t ih => rw [List.map_cons, List.map_cons, List.map_cons, ih, h.1]
theorem leads_at {H : Hp} {S : Stand} {es : List Ent} {L : List (Mv × Spot)} (p : Paired (Leads H S) es L) : ∀ x ∈ es, KeyAt H x.2.1 x.1 := by
  induction p with
  | nil => intro x hx; cases hx
  | cons h t ih =>
    intro x hx
    rcases List.mem_cons.mp hx with e | hx
    · subst e
      rw [h.1]
      exact h.2.1
    · exact ih x hx
theorem leads_mono {H H' : Hp} {S : Stand} {es : List Ent} {L : List (Mv × Spot)} (t : Ti H H') (p : Paired (Leads H S) es L) : Paired (Leads H' S) es L := Paired.mapP p fun _ _ z => ⟨z.1, z.2.1.mono t, z.2.2.mono t⟩
/-- keys that differ are put one behind the other -/
theorem puts_app : ∀ {more ks : List Ent}, ((ks ++ more).map (·.1)).Nodup → putsN ks more = ks ++ more
  | [], ks, _ => (List.append_nil ks).symm
  | x :: more, ks, nd => by
    have hn : (valN ks x.1).isSome = false := by
      have : valN ks x.1 = none := val_none.mpr fun q => by
        rw [List.map_append, List.nodup_append] at nd
        exact nd.2.2 _ q x.1 (by simp) rfl
      rw [this]
      rfl
    show putsN (putN ks x.1 x.2.1 x.2.2) more = _
    rw [put_new hn]
    have e : ks ++ [(x.1, x.2.1, x.2.2)] ++ more = ks ++ x :: more := by simp
    rw [← e]
    exact puts_app (by rw [e]; exact nd)
theorem puts_nodup {es : List Ent} (nd : (es.map (·.1)).Nodup) : putsN [] es = es := by
  have := puts_app (ks := []) (more := es) (by simpa using nd)
  simpa using this
theorem val_leads {H : Hp} {S : Stand} {es : List Ent} {L : List (Mv × Spot)} (p : Paired (Leads H S) es L) (m : Mv) : match L.find? (fun c => decide (c.1 = m)) with
    | none => valN es (kMv m) = none
    | some c => ∃ v, valN es (kMv m) = some v ∧ Im H v (dSt (S.set c.1.2 c.2)) := by
  induction p with
  | nil => rfl
  | @cons e c es L h t ih =>
    rw [List.find?_cons]
    by_cases q : c.1 = m
    · simp only [decide_eq_true q]
      refine ⟨e.2.2, ?_, h.2.2⟩
      unfold valN
      rw [List.find?_cons, h.1, q, decide_eq_true rfl]
      rfl
    · simp only [decide_eq_false q]
      have z : valN (e :: es) (kMv m) = valN es (kMv m) := by
        unfold valN
        rw [List.find?_cons, h.1, decide_eq_false (fun z => q (kMv_inj z))]
      rw [z]
      exact ih
/-- what the dict tells of a move -/
theorem val_move {H : Hp} {ln : List Int} {wy : List Bool} {S T : Stand} {es : List Ent} (p : Paired (Leads H S) es (allPairs ln wy S)) {m : Mv} (h : behindMv ln wy S m = some T) : ∃ v, valN es (kMv m) = some v ∧ Im H v (dSt T) := by
  have z := val_leads p m
  unfold behindMv at h
  obtain ⟨c, hc, rfl⟩ := Option.map_eq_some_iff.mp h
  rw [hc] at z
  exact z
theorem leads_once {H : Hp} {ln : List Int} {wy : List Bool} {S : Stand} {es : List Ent} (p : Paired (Leads H S) es (allPairs ln wy S)) : putsN [] es = es := puts_nodup (by
  rw [leads_keys p]
  exact List.pairwise_map.mpr ((moves_nodup ln wy S).imp fun {a b} ne e => ne (kMv_inj e)))
end Slx

set_option Elab.async false
set_option linter.all false
set_option maxRecDepth 100000
set_option maxHeartbeats 4000000
namespace Slx
open PySem PySem.Spec PyProof.Rows L2 Sl
section
variable {P : Program} {w : World} {K : PySem.W.Frag} {mg : Str → Option Value} {base : Heap}
/-- few enough to be searched -/
abbrev Few (ln : List Int) (S : Stand) : Prop := Sl.room ln S.length ≤ 200000
theorem pow_small {a b n m : Nat} (h : a ≤ b) (hb : 1 ≤ b) (hn : n ≤ m) : a ^ n ≤ b ^ m := Nat.le_trans (Nat.pow_le_pow_left h n) (Nat.pow_le_pow_right hb hn)
theorem small_few {ln : List Int} {wy : List Bool} {S : Stand} (ok : OkStand ln wy S) (h : Small ln wy) : Few ln S := by
  have h8 := ok.lane.most
  have h6 := ok.most
  unfold Few Sl.room
  rw [ok.len]
  rcases h with ⟨h1, h2⟩ | h | h
  · exact Nat.le_trans (pow_small (b := 9) (m := 3) (by omega) (by decide) h2) (by decide)
  · exact Nat.le_trans (pow_small (b := 17) (m := 2) (by omega) (by decide) h) (by decide)
  · exact Nat.le_trans (pow_small (b := 7) (m := 6) (by omega) (by decide) h6) (by decide)
/-- all that is reached, as the keys of a dict at d -/
def Told (P : Program) (w : World) (ln : List Int) (wy : List Bool) (S : Stand) (H : Hp) (d : Addr) (ks : List Ent) (L : List Stand) : Prop :=
  DN P w H d ks ∧ Of ks L ∧ L.Nodup ∧ ∀ T, T ∈ L ↔ Reach ln wy S T
end
end Slx

set_option Elab.async false
set_option linter.all false
set_option maxRecDepth 100000
set_option maxHeartbeats 4000000
namespace Slx
open PySem PySem.Spec PyProof.Rows L2 Sl
/-- those that are not out yet -/
def still (S : Stand) : Stand := S.filter fun s => decide (s ≠ .out)
theorem still_none {S : Stand} (h : allOut S = true) : still S = [] := by
  unfold still
  rw [List.filter_eq_nil_iff]
  intro s hs
  have := List.all_eq_true.mp h s hs
  simpa using this
theorem eqv_still (S : Stand) : PyData.eqv (.list (S.map dS)) (.list []) = S.isEmpty := by cases S <;> rfl
theorem shaped_spots (S : Stand) : SeqAt.shaped (.list (S.map dS)) = true := by
  unfold SeqAt.shaped
  rw [show PyData.canLay0 (.list (S.map dS)) = true from canLay_spots S]
  have := depth_spots S
  have h : PyData.depth (.list (S.map dS)) ≤ 64 := by
    simp only [PyData.depth]; omega
  rw [decide_eq_true h]
  rfl
theorem word_out (s : Spot) : ∃ wd rest, vS s = .str wd :: rest ∧ decide (V.str wd = .str "out") = decide (s = .out) := by
  cases s with
  | lane p => exact ⟨_, _, rfl, by simp; decide⟩
  | side p => exact ⟨_, _, rfl, by simp; decide⟩
  | out => exact ⟨_, _, rfl, by simp⟩
theorem still_snoc (S : Stand) (s : Spot) : still (S ++ [s]) = if s = .out then still S else still S ++ [s] := by
  unfold still
  rw [List.filter_append]
  by_cases h : s = .out <;> simp [h]
section
variable {P : Program} {w : World} {K : PySem.W.Frag} {mg : Str → Option Value} {base : Heap}
/-- the moves of a row -/
abbrev RowAt (H : Hp) (a : Addr) (xs : List V) (R : List Mv) : Prop := H a = some (.lst xs) ∧ ImAll H xs (R.map dM)
end
end Slx

set_option Elab.async false
set_option linter.all false
set_option maxRecDepth 100000
set_option maxHeartbeats 4000000
namespace Slx
open PySem PySem.Spec PyProof.Rows L2 Sl
/-! ### what was handed in, as data -/
theorem self_keys (ks : List NestedKey) : PyData.eqvAll (NestedKey.datas ks) (NestedKey.datas ks) = true := by rw [eqv_keys, NestedKey.beqAll_self]
theorem datas_map {α : Type} (f : α → NestedKey) : ∀ l : List α, NestedKey.datas (l.map f) = l.map fun x => (f x).data
  | [] => rfl
  | x :: l => by rw [List.map_cons, List.map_cons, NestedKey.datas, datas_map f l]
theorem self_map {α : Type} (f : α → NestedKey) (l : List α) : PyData.eqvAll (l.map fun x => (f x).data) (l.map fun x => (f x).data) = true := by
  rw [← datas_map]
  exact self_keys _
def dLane (ln : List Int) : PyData := .list (ln.map PyData.int)
def dWays (wy : List Bool) : PyData := .list (wy.map fun b => PyData.str (wS b))
def dHand (ln : List Int) (wy : List Bool) : PyData := .list [dLane ln, dWays wy]
theorem self_hand (ln : List Int) (wy : List Bool) : PyData.eqv (dHand ln wy) (dHand ln wy) = true := by
  have h1 : PyData.eqv (dLane ln) (dLane ln) = true := self_map (fun i : Int => NestedKey.num i) ln
  have h2 : PyData.eqv (dWays wy) (dWays wy) = true := self_map (fun b : Bool => NestedKey.text (wS b)) wy
  show (PyData.eqv (dLane ln) (dLane ln) && (PyData.eqv (dWays wy) (dWays wy) && true)) = true
  rw [h1, h2]
  rfl
theorem flat_map {α : Type} (f : α → PyData) (h1 : ∀ x, PyData.canLay0 (f x) = true) (h2 : ∀ x, PyData.depth (f x) = 0) : ∀ l : List α, PyData.canLayAll0 (l.map f) = true ∧ PyData.depthAll (l.map f) = 0
  | [] => ⟨rfl, rfl⟩
  | x :: l => by
    obtain ⟨a, b⟩ := flat_map f h1 h2 l
    refine ⟨?_, ?_⟩
    · show (PyData.canLay0 (f x) && PyData.canLayAll0 (l.map f)) = true
      rw [h1, a]
      rfl
    · show max (PyData.depth (f x)) (PyData.depthAll (l.map f)) = 0
      rw [h2, b]
      rfl
theorem shaped_hand (ln : List Int) (wy : List Bool) : SeqAt.shaped (dHand ln wy) = true := by
  obtain ⟨a1, a2⟩ := flat_map (fun i : Int => PyData.int i) (fun _ => rfl) (fun _ => rfl) ln
  obtain ⟨b1, b2⟩ := flat_map (fun b : Bool => PyData.str (wS b)) (fun b => by cases b <;> decide +kernel) (fun _ => rfl) wy
  have c : PyData.canLay0 (dHand ln wy) = true := by
    show (PyData.canLayAll0 (ln.map PyData.int) && (PyData.canLayAll0 (wy.map fun b => PyData.str (wS b)) && true)) = true
    rw [a1, b1]
    rfl
  have d : PyData.depth (dHand ln wy) ≤ 64 := by
    simp only [dHand, dLane, dWays, PyData.depth, PyData.depthAll]
    rw [show PyData.depthAll (ln.map PyData.int) = 0 from a2, b2]
    decide
  unfold SeqAt.shaped
  rw [c, decide_eq_true d]
  rfl
/-- both lists, with their data -/
theorem dp_lane {K : PySem.W.Frag} {H : Hp} {a : Addr} {ln : List Int} (h : LaneAt K H a ln) : Dp K H (.ref a) (dLane ln) := .lst h (ImAll.dp (ImAll.of (by simp) fun i v d hv hd => by
  rw [List.getElem?_map] at hv hd
  cases e : ln[i]? with
  | none => rw [e] at hv; cases hv
  | some n =>
    rw [e] at hv hd
    cases hv
    cases hd
    exact .int n))
theorem dp_ways {K : PySem.W.Frag} {H : Hp} {a : Addr} {wy : List Bool} (h : WaysAt K H a wy) : Dp K H (.ref a) (dWays wy) := .lst h (ImAll.dp (ImAll.of (by simp) fun i v d hv hd => by
  rw [List.getElem?_map] at hv hd
  cases e : wy[i]? with
  | none => rw [e] at hv; cases hv
  | some b =>
    rw [e] at hv hd
    cases hv
    cases hd
    exact .str _))
theorem dp_hand {K : PySem.W.Frag} {H : Hp} {h a b : Addr} {ln : List Int} {wy : List Bool} (hh : SqL K H h [.ref a, .ref b]) (ha : LaneAt K H a ln) (hb : WaysAt K H b wy) : Dp K H (.ref h) (dHand ln wy) := .lst hh (.cons (dp_lane ha) (.cons (dp_ways hb) .nil))
/-- a closed set of stands, none of them out -/
structure Shut (ln : List Int) (wy : List Bool) (M : List Stand) : Prop where
  ok : ∀ T ∈ M, OkStand ln wy T
  notOut : ∀ T ∈ M, allOut T = false
  next : ∀ T ∈ M, ∀ U ∈ behinds ln wy T, U ∈ M
section
variable {P : Program} {w : World} {K : PySem.W.Frag} {mg : Str → Option Value} {base : Heap}
/-! ### what the program's searches promise -/
abbrev AskS (K : PySem.W.Frag) (vs : List V) (H : Hp) (R : List Int → List Bool → Stand → Prop) : Prop := ∃ (a b c : Addr) (ln : List Int) (wy : List Bool) (S : Stand), vs = [.ref a, .ref b, .ref c] ∧ LaneAt K H a ln ∧ WaysAt K H b wy ∧ StandAt H c S ∧ OkStand ln wy S ∧ Few ln S ∧ R ln wy S
/-- all that is reached, as a list -/
def spReached (K : PySem.W.Frag) : Sp := fun vs H Q _ => ∃ a b c ln wy S, vs = [.ref a, .ref b, .ref c] ∧ LaneAt K H a ln ∧ WaysAt K H b wy ∧ StandAt H c S ∧ OkStand ln wy S ∧ Few ln S ∧
  ∀ (H' : Hp) (p : Addr) (xs : List V) (M : List Stand), Same H H' → H p = none → H' p = some (.lst xs) → ImAll H' xs (M.map dSt) → M.Nodup → (∀ T, T ∈ M ↔ Reach ln wy S T) → Q (.ref p) H'
/-- the price as a value -/
def vPrice : Option Nat → V
  | none => .non
  | some n => .int (n : Nat)
def dPrice : Option Nat → PyData
  | none => .none
  | some n => .int (n : Nat)
def dPP (ln : List Int) (wy : List Bool) (T : Stand) : PyData := .tuple [dSt T, dPrice (priceOf ln wy T)]
/-- each stand that is reached with its price -/
def spPrices (K : PySem.W.Frag) : Sp := fun vs H Q _ => AskS K vs H fun ln wy S =>
  ∀ (H' : Hp) (p : Addr) (xs : List V) (M : List Stand), Same H H' → H p = none → H' p = some (.lst xs) → ImAll H' xs (M.map (dPP ln wy)) → M.Nodup → (∀ T, T ∈ M ↔ Reach ln wy S T) → Q (.ref p) H'
/-- a row of as many moves as the price, or none -/
def spLeast (K : PySem.W.Frag) : Sp := fun vs H Q _ => AskS K vs H fun ln wy S =>
  (priceOf ln wy S = none → ∀ H', Same H H' → Q .non H') ∧
  ∀ (n : Nat) (H' : Hp) (p : Addr) (xs : List V) (R : List Mv) (T : Stand), priceOf ln wy S = some n → Same H H' → H p = none → RowAt H' p xs R → rowEnd ln wy S R = some T → allOut T = true → R.length = n → Q (.ref p) H'
/-- a closed set with this stand, or none -/
def spClosed (K : PySem.W.Frag) : Sp := fun vs H Q _ => AskS K vs H fun ln wy S =>
  (∀ n H', priceOf ln wy S = some n → Same H H' → Q .non H') ∧
  ∀ (H' : Hp) (p : Addr) (xs : List V) (M : List Stand), priceOf ln wy S = none → Same H H' → H p = none → H' p = some (.lst xs) → ImAll H' xs (M.map dSt) → M.length ≤ 200000 → S ∈ M → Shut ln wy M → Q (.ref p) H'
theorem price_most {ln : List Int} {wy : List Bool} {S : Stand} {n : Nat} (o : OkStand ln wy S) (h : priceOf ln wy S = some n) : n ≤ 96 := by
  have key : ∀ {k : Nat} {T : Stand}, OkStand ln wy T → Through ln wy T k → (k : Int) ≤ weigh ln wy T := fun {k} => by
    induction k with
    | zero => exact fun o _ => (weigh_least o).1
    | succ k ih =>
      intro T o t
      cases t with
      | on hT ht =>
        have h1 := weigh_behinds o hT
        have h2 := ih (behinds_ok o hT).1 ht
        omega
  have h1 := key o (through_of o h)
  have h2 := (weigh_least o).2
  omega
end
end Slx

set_option Elab.async false
set_option linter.all false
set_option maxRecDepth 100000
set_option maxHeartbeats 4000000
namespace Slx
open PySem PySem.Spec PyProof.Rows L2 Sl
/-! ### a search that notes a stand when it first sees it -/
structure Find (ln : List Int) (wy : List Bool) (S : Stand) (L : List Stand) (left : Stand → Prop) : Prop where
  nodup : L.Nodup
  ok : ∀ T ∈ L, Reach ln wy S T
  start : S ∈ L
  next : ∀ T ∈ L, left T ∨ ∀ U ∈ behinds ln wy T, U ∈ L
theorem Find.add {ln : List Int} {wy : List Bool} {S U : Stand} {L : List Stand} {left left' : Stand → Prop} (f : Find ln wy S L left) (n : U ∉ L) (r : Reach ln wy S U) (h : ∀ T, left T → left' T) (hU : left' U) : Find ln wy S (L ++ [U]) left' where
  nodup := List.nodup_append.mpr ⟨f.nodup, by simp, fun a ha b hb e => n (by rw [List.mem_singleton.mp hb] at e; exact e ▸ ha)⟩
  ok := fun T hT => by
    rcases List.mem_append.mp hT with h1 | h1
    · exact f.ok T h1
    · rw [List.mem_singleton.mp h1]; exact r
  start := by simp [f.start]
  next := fun T hT => by
    rcases List.mem_append.mp hT with h1 | h1
    · rcases f.next T h1 with h2 | h2
      · exact .inl (h T h2)
      · exact .inr fun V hV => by simp [h2 V hV]
    · rw [List.mem_singleton.mp h1]; exact .inl hU
theorem Find.few {ln : List Int} {wy : List Bool} {S : Stand} {L : List Stand} {left : Stand → Prop} (f : Find ln wy S L left) (o : OkStand ln wy S) : L.length ≤ Sl.room ln S.length :=
  stands_few f.nodup fun T hT => ⟨((f.ok T hT).ok o).2, ((f.ok T hT).ok o).1.spot⟩
theorem Find.done {ln : List Int} {wy : List Bool} {S : Stand} {L : List Stand} {left : Stand → Prop} (f : Find ln wy S L left) (n : ∀ T, ¬ left T) (T : Stand) : T ∈ L ↔ Reach ln wy S T := by
  refine ⟨f.ok T, fun h => ?_⟩
  induction h with
  | here => exact f.start
  | on _ hU ih =>
    rcases f.next _ ih with h | h
    · exact absurd h (n _)
    · exact h _ hU
section
variable {P : Program} {w : World} {K : PySem.W.Frag} {mg : Str → Option Value} {base : Heap}
theorem ok_reached (T : Txt K mg) : DefOk P w K mg base 5 "reached" ["lane", "ways", "stand"] (spReached K) := by
  have D_needStand : DefOk P w K mg base 4 "need_stand" ["lane", "ways", "stand"] (spNeedStand K) := ok_needStand T
  have D_allTracks : DefOk P w K mg base 4 "all_tracks" ["lane", "ways"] (spAllTracks P w K) := ok_allTracks T
  have D_steps : DefOk P w K mg base 1 "steps" ["tracks", "stand"] (spSteps P w K) := ok_steps T
  refine T.f_reached.ok sc_reached (fun vs H Q E h => by obtain ⟨a, b, c, ln, wy, S, rfl, _⟩ := h; rfl) (fun f cdv A outer s H vs Q E hr h => ?_)
  obtain ⟨a, b, c, ln, wy, S, rfl, hL, hW, hS, ok, few, q⟩ := h
  refine ⟨_, (pss_cons (ps_expr (pe_def D_needStand (hr.mono (by omega)) (pa_cons (pv 0) (pa_cons (pv 1) (pa_cons (pv 2) pa_nil)))))
      (pss_cons (ps_set (i := 3) sc_reached.nd rfl (.inl rfl) (pe_def D_allTracks (hr.mono (by omega)) (pa_cons (pv 0) (pa_cons (pv 1) pa_nil))))
      (pss_cons (ps_set (i := 4) sc_reached.nd rfl (.inl rfl) (pe_disp1 (P := P) (w := w) (hu9 hr) (pv 2) pe_bl))
      (pss_cons (ps_set (i := 5) sc_reached.nd rfl (.inl rfl) (pe_lst (pa_cons (pv 2) pa_nil)))
      (pss_cons (ps_while PassesOwn.never (pt_truth (pv 5) (by intro _; rfl)) (pss_cons (ps_set (i := 6) sc_reached.nd rfl (.inl rfl) (pe_bm0 PySem.F.plainAttrs_list PySem.F.slot_list_pop PySem.F.type_list_pop mt_pop (pv 5)))
      (pss_one (ps_for PassesOwn.never rfl (pi_listK (K := K) (pe_def D_steps (hr.mono (by omega)) (pa_cons (pv 3) (pa_cons (pv 6) pa_nil)))) (pg_tup rfl (pgs_cons (pg_name (i := 7) sc_reached.nd rfl (.inl rfl)) (pgs_cons (pg_name (i := 8) sc_reached.nd rfl (.inl rfl)) pgs_nil))) (pss_one (ps_if (pt_cmp (pc_nnotin (P := P) (w := w) (hu9 hr) (pv 8) (pv 4))) (pss_cons (ps_nput (P := P) (w := w) (hu9 hr) (pv 4) (pv 8) pe_bl (by rfl))
      (pss_one (ps_expr (pe_bm PySem.F.plainAttrs_list PySem.F.slot_list_append PySem.F.type_list_append mt_append (pv 5) (pa_cons (pv 8) pa_nil))))) pss_nil))))))
      (pss_one (ps_ret (pe_callTy (call_listN (P := P) (w := w) rfl) (by rfl) T.b_list (by decide +kernel) (pa_cons (pv 4) pa_nil))))))))), ?_⟩
  refine ⟨.ref a, rfl, .ref b, rfl, .ref c, rfl, a, b, c, ln, wy, S, rfl, hL, hW, hS, ok, fun H1 s1 => ?_⟩
  refine ⟨.ref a, rfl, .ref b, rfl, a, b, ln, wy, rfl, s1.seq hL, s1.seq hW, ⟨ok.lane, ok.most⟩, fun H2 t s2 ht tr _ => ?_⟩
  have s12 := s1.trans s2
  have hS2 := hS.mono (Ti.of s12)
  have hF : Sl.room ln S.length ≤ 200000 := few
  refine fun d hd => ⟨.ref c, rfl, c, kSt S, rfl, upd_same, hS2.key.mono (Ti.new hd), ?_⟩
  rw [upd_upd]
  have sd := same_new (o := dNO P w d (putN [] (kSt S) c (.bl true))) hd
  have dn0 : DN P w (upd H2 d (dNO P w d (putN [] (kSt S) c (.bl true)))) d (putN [] (kSt S) c (.bl true)) := ⟨upd_same, putN_keys (fun _ h => nomatch h) (hS2.key.mono (Ti.new hd))⟩
  refine ⟨.ref c, rfl, one_size, fun w0 hw0 => ?_⟩
  have sw := same_new (o := .lst [.ref c]) hw0
  have hw02 : H2 w0 = none := sd.free hw0
  refine ⟨fun m σ G => ∃ (ks : List Ent) (L W : List Stand) (xs : List V) (y6 y7 y8 : Option V), Same H2 G ∧ (G w0 = some (.lst xs) ∧ ImAll G xs (W.map dSt)) ∧ (DN P w G d ks ∧ Of ks L) ∧ Find ln wy S L (· ∈ W) ∧ ((∀ T ∈ W, T ∈ L) ∧ W.length ≤ L.length) ∧
      σ = [some (.ref a), some (.ref b), some (.ref c), some (.ref t), some (.ref d), some (.ref w0), y6, y7, y8] ∧ m = 2 * (200000 - L.length) + W.length,
    ⟨_, _, [S], [S], [.ref c], none, none, none, sd.trans sw, ⟨upd_same, .cons (Im.mono (Ti.of (sd.trans sw)) hS2.im) .nil⟩, ⟨dn0.same sw, rfl⟩, ⟨by simp, fun T hT => by rw [List.mem_singleton.mp hT]; exact .here, by simp, fun T hT => .inl hT⟩, ⟨fun T h => h, Nat.le_refl _⟩, rfl, rfl⟩, ?_⟩
  rintro m σ G ⟨ks, L, W, xs, y6, y7, y8, sG, ⟨ew, iw⟩, ⟨dn, of⟩, fi, ⟨wl, wn⟩, rfl, hm⟩
  have lw : xs.length = W.length := by rw [iw.length, List.length_map]
  have hfew := fi.few ok
  refine ⟨.ref w0, rfl, _, .inl ⟨xs, .inl (.inl ew), rfl⟩, ?_⟩
  rcases List.eq_nil_or_concat W with hW0 | ⟨rest, u, hWc⟩
  · subst hW0
    have hx : xs = [] := List.eq_nil_of_length_eq_zero (by rw [lw]; rfl)
    subst hx
    refine iteF ⟨.ref d, rfl, d, ks, rfl, .inl dn.at_, fun p hp => ?_⟩
    have z := fi.done (fun T h => nomatch h)
    exact q _ p _ L ((s12.trans sG).trans (same_new hp)) ((s12.trans sG).free hp) upd_same ((keys_im of dn.keys).mono (Ti.new hp)) fi.nodup z
  rw [List.concat_eq_append] at hWc
  subst hWc
  have lx : xs.length = rest.length + 1 := by rw [lw, List.length_append]; rfl
  have hne : (!xs.isEmpty) = true := by
    cases xs with
    | nil => simp at lx
    | cons x xs => rfl
  rw [hne]
  refine iteT ⟨_, fun σ' H' n => n, ?_⟩
  obtain ⟨v, ev, iv⟩ := iw.get (i := rest.length) (d := dSt u) (by simp)
  obtain ⟨p, rfl, hp⟩ := im_standAt iv
  have ed : xs.dropLast = xs.take rest.length := by rw [List.dropLast_eq_take, lx]; rfl
  have ir : ImAll G (xs.take rest.length) (rest.map dSt) := by
    have z := iw.take rest.length
    have e1 : rest.length = (rest.map dSt).length := (List.length_map ..).symm
    rw [List.map_append, List.take_append_of_le_length (Nat.le_of_eq e1), List.take_of_length_le (Nat.le_of_eq e1.symm)] at z
    exact z
  refine ⟨.ref w0, rfl, .inl ⟨rfl, _, .inl (.inl ew)⟩, w0, xs, .ref p, rfl, rfl, ew, by rw [lx]; exact ev, ?_⟩
  rw [ed]
  have dn1 := dn.lst (ys := xs.take rest.length) ew
  have tl := Ti.lst (o := .lst (xs.take rest.length)) ew
  have s3 := same_mut (o := .lst (xs.take rest.length)) sG hw02
  have ew1 : upd G w0 (.lst (xs.take rest.length)) w0 = some (.lst (xs.take rest.length)) := upd_same
  generalize upd G w0 (.lst (xs.take rest.length)) = G1 at dn1 tl s3 ew1
  have hp1 := hp.mono tl
  have ir1 := ir.mono tl
  generalize xs.take rest.length = xr at ew1 ir1
  have hu := fi.ok u (wl u (by simp))
  have oku := hu.ok ok
  refine ⟨.ref t, rfl, .ref p, rfl, t, p, ln, wy, u, rfl, tr.same s3, hp1, oku.1, fun G2 ml ms s4 hml eml iml => ⟨ml, rfl, ⟨_, .inl (.inl eml)⟩, ?_⟩⟩
  have lm : ms.length = (allPairs ln wy u).length := by rw [iml.length, List.length_map]
  have nml : ml ≠ w0 := fun e => by rw [e, ew1] at hml; cases hml
  have nmd : ml ≠ d := fun e => by rw [e, dn1.at_] at hml; cases hml
  refine for_it (walk_list (K := K) (a := ml) (xs := ms)) (fun i σ U => ∃ (ks : List Ent) (L W : List Stand) (xs : List V) (y7 y8 : Option V), Same H2 U ∧ (U ml = some (.lst ms) ∧ Ti G2 U) ∧ (U w0 = some (.lst xs) ∧ ImAll U xs (W.map dSt)) ∧ (DN P w U d ks ∧ Of ks L) ∧ (Find ln wy S L (fun T => T ∈ W ∨ T = u) ∧ ∀ V ∈ (behinds ln wy u).take i, V ∈ L) ∧ ((∀ T ∈ W, T ∈ L) ∧ W.length ≤ L.length) ∧
      σ = [some (.ref a), some (.ref b), some (.ref c), some (.ref t), some (.ref d), some (.ref w0), some (.ref p), y7, y8] ∧ 2 * (200000 - L.length) + W.length < m)
    ⟨ks, L, rest, xr, _, _, s3.trans s4, ⟨eml, Ti.refl _⟩, ⟨s4 _ _ ew1, ir1.mono (Ti.of s4)⟩, ⟨dn1.same s4, of⟩, ⟨⟨fi.nodup, fi.ok, fi.start, fun T hT => ?_⟩, by simp⟩, ⟨fun T hT => wl T (by simp [hT]), by rw [List.length_append] at wn; omega⟩, rfl, by rw [hm, List.length_append]; simp⟩ (fun i σ U _ pv => by
      obtain ⟨_, _, _, _, _, _, _, ⟨e, _⟩, _⟩ := pv
      exact .inl (.inl e)) (fun i x σ U U' hi pv y => ?_) (fun σ U pv => ?_)
  · rcases fi.next T hT with h | h
    · rcases List.mem_append.mp h with h | h
      · exact .inl (.inl h)
      · exact .inl (.inr (List.mem_singleton.mp h))
    · exact .inr h
  · obtain ⟨ks, L, W, xs, y7, y8, su, ⟨eu, tu⟩, ⟨ewu, iwu⟩, ⟨dnu, ofu⟩, ⟨fu, tk⟩, ⟨wlu, wnu⟩, rfl, hmu⟩ := pv
    obtain ⟨rfl, ex⟩ := y
    obtain ⟨dd, edd, imd⟩ := iml.getV ex
    rw [List.getElem?_map] at edd
    cases ec : (allPairs ln wy u)[i]? with
    | none => rw [ec] at edd; cases edd
    | some ch =>
    rw [ec] at edd
    cases edd
    obtain ⟨pt, u1, u2, rfl, tt, i1, i2⟩ := im_two (Im.mono tu imd)
    obtain ⟨pu, rfl, hpu⟩ := im_standAt i2
    have eb : (behinds ln wy u)[i]? = some (u.set ch.1.2 ch.2) := by rw [behinds, List.getElem?_map, ec]; rfl
    generalize u.set ch.1.2 ch.2 = U2 at hpu eb
    refine ⟨pt, _, rfl, tt.sq, rfl, _, _, rfl, _, _, rfl, rfl, ?_⟩
    refine ⟨.ref pu, rfl, .ref d, rfl, d, pu, ks, kSt U2, ⟨rfl, rfl⟩, ⟨dnu.rd, hpu.key⟩, _, rfl, ?_⟩
    rw [ofu.mem]
    by_cases hU : U2 ∈ L
    · rw [decide_eq_true hU]
      refine iteF ⟨ks, L, W, xs, _, _, su, ⟨eu, tu⟩, ⟨ewu, iwu⟩, ⟨dnu, ofu⟩, ⟨fu, fun V hV => ?_⟩, ⟨wlu, wnu⟩, rfl, hmu⟩
      rw [List.take_add_one, eb] at hV
      rcases List.mem_append.mp hV with h | h
      · exact tk V h
      · simp at h; rw [h]; exact hU
    rw [decide_eq_false hU]
    have rU : Reach ln wy S U2 := .on hu (mem_of_some eb)
    have f2 := fu.add (left' := fun T => T ∈ W ++ [U2] ∨ T = u) hU rU (fun T h => h.elim (fun h => .inl (by simp [h])) .inr) (.inl (by simp))
    have fw2 := f2.few ok
    have l2 : (L ++ [U2]).length = L.length + 1 := by simp
    rw [l2] at fw2
    refine iteT ⟨.ref d, rfl, .ref pu, rfl, d, pu, ks, kSt U2, ⟨rfl, rfl⟩, ⟨dnu, hpu.key⟩, ?_, ?_⟩
    · rw [ofu.len]
      exact Nat.lt_of_le_of_lt (by omega : _ ≤ 200000) (by decide)
    have dn2 := dnu.put (.bl true) hpu.key
    have tl2 := Ti.dict (u := dNO P w d (putN ks (kSt U2) pu (.bl true))) dnu.at_
    have s5 := same_mut (o := dNO P w d (putN ks (kSt U2) pu (.bl true))) su hd
    have of2 := ofu.put hU pu (.bl true)
    have ew2 : upd U' d (dNO P w d (putN ks (kSt U2) pu (.bl true))) w0 = some (.lst xs) := by
      rw [upd_ne (fun z => by subst z; rw [dnu.at_] at ewu; cases ewu)]
      exact ewu
    have em2 : upd U' d (dNO P w d (putN ks (kSt U2) pu (.bl true))) ml = some (.lst ms) := by rw [upd_ne nmd]; exact eu
    generalize upd U' d (dNO P w d (putN ks (kSt U2) pu (.bl true))) = U3 at dn2 tl2 s5 ew2 em2
    have lxs : xs.length = W.length := by rw [iwu.length, List.length_map]
    refine ⟨.ref w0, rfl, .inl ⟨rfl, _, .inl (.inl ew2)⟩, .ref pu, rfl, w0, xs, _, rfl, rfl, ew2, Nat.lt_of_le_of_lt (by omega : _ ≤ 200000) (by decide), ?_⟩
    have tl3 := Ti.lst (o := .lst (xs ++ [.ref pu])) ew2
    refine ⟨_, L ++ [U2], W ++ [U2], _, _, _, same_mut s5 hw02, ⟨by rw [upd_ne nml]; exact em2, (tu.trans tl2).trans tl3⟩, ⟨upd_same, ?_⟩, ⟨dn2.lst ew2, of2⟩, ⟨f2, fun V hV => ?_⟩, ⟨fun T hT => ?_, by simp; omega⟩, rfl, ?_⟩
    · rw [List.map_append]
      exact (iwu.mono (tl2.trans tl3)).append (.cons ((StandAt.mono (tl2.trans tl3) hpu).im) .nil)
    · rw [List.take_add_one, eb] at hV
      rcases List.mem_append.mp hV with h | h
      · simp [tk V h]
      · simp at h; simp [h]
    · rcases List.mem_append.mp hT with h | h
      · simp [wlu T h]
      · simp [List.mem_singleton.mp h]
    · rw [l2, List.length_append, List.length_singleton]
      omega
  · obtain ⟨ks, L, W, xs, y7, y8, su, ⟨eu, tu⟩, ⟨ewu, iwu⟩, ⟨dnu, ofu⟩, ⟨fu, tk⟩, ⟨wlu, wnu⟩, rfl, hmu⟩ := pv
    have full : (behinds ln wy u).take ms.length = behinds ln wy u := List.take_of_length_le (by rw [lm]; simp [behinds])
    rw [full] at tk
    refine ⟨_, hmu, ks, L, W, xs, _, _, _, su, ⟨ewu, iwu⟩, ⟨dnu, ofu⟩, ⟨fu.nodup, fu.ok, fu.start, fun T hT => ?_⟩, ⟨wlu, wnu⟩, rfl, rfl⟩
    rcases fu.next T hT with h | h
    · rcases h with h | rfl
      · exact .inl h
      · exact .inr tk
    · exact .inr h
end
end Slx

/-! The mathematics of a search by layers: what a go or an on leads to comes ahead of what one more aside leads to. -/
set_option autoImplicit false
namespace Sl
def asd (m : Mv) : Nat := if m.1 = .aside then 1 else 0
theorem asides_snoc (R : List Mv) (m : Mv) : asides (R ++ [m]) = asides R + asd m := by
  unfold asides asd
  rw [List.countP_append]
  by_cases q : m.1 = .aside <;> simp [q]
/-- how a stand was come to: by no move, or by one out of another stand -/
abbrev Way := Option (Mv × Stand)
/-- a stand, how it was come to, by how many asides -/
abbrev Came := Stand × Way × Nat
/-- the row that is read off backwards -/
inductive Led (S : Stand) (C : List Came) : Stand → List Mv → Prop
  | start {j : Nat} : (S, none, j) ∈ C → Led S C S []
  | on {T U : Stand} {m : Mv} {j : Nat} {R : List Mv} : (T, some (m, U), j) ∈ C → Led S C U R → Led S C T (R ++ [m])
theorem Led.mono {S T : Stand} {C C' : List Came} {R : List Mv} (h : ∀ c ∈ C, c ∈ C') (l : Led S C T R) : Led S C' T R := by
  induction l with
  | start a => exact .start (h _ a)
  | on a _ ih => exact .on (h _ a) ih
/-- x may be come to by r asides -/
def Step (ln : List Int) (wy : List Bool) (S : Stand) (C : List Came) (x : Stand × Way) (r : Nat) : Prop := match x.2 with
  | none => x.1 = S ∧ r = 0
  | some (m, U) => behindMv ln wy U m = some x.1 ∧ ∃ c ∈ C, c.1 = U ∧ r = c.2.2 + asd m
theorem Step.mono {ln : List Int} {wy : List Bool} {S : Stand} {C C' : List Came} {x : Stand × Way} {r : Nat} (h : ∀ c ∈ C, c ∈ C') (s : Step ln wy S C x r) : Step ln wy S C' x r := by
  unfold Step at *
  split at s
  · exact s
  · obtain ⟨a, c, hc, b⟩ := s
    exact ⟨a, c, h c hc, b⟩
/-- what one move leads to is there, or waits -/
def Cov (r : Nat) (C : List Came) (W L : List (Stand × Way)) (j : Nat) (T : Stand) : Prop := (∃ c ∈ C, c.1 = T ∧ c.2.2 ≤ j) ∨ (j = r ∧ ∃ x ∈ W, x.1 = T) ∨ (j = r + 1 ∧ ∃ x ∈ L, x.1 = T)
theorem Cov.mono {r : Nat} {C C' : List Came} {W W' L L' : List (Stand × Way)} {j : Nat} {T : Stand} (h1 : ∀ c ∈ C, c ∈ C') (h2 : ∀ x ∈ W, x ∈ W') (h3 : ∀ x ∈ L, x ∈ L') (c : Cov r C W L j T) : Cov r C' W' L' j T := by
  rcases c with ⟨c, a, b⟩ | ⟨e, x, a, b⟩ | ⟨e, x, a, b⟩
  · exact .inl ⟨c, h1 _ a, b⟩
  · exact .inr (.inl ⟨e, x, h2 _ a, b⟩)
  · exact .inr (.inr ⟨e, x, h3 _ a, b⟩)
structure Layers (ln : List Int) (wy : List Bool) (S : Stand) (r : Nat) (C : List Came) (W L : List (Stand × Way)) (busy : Option Stand) : Prop where
  nodup : (C.map (·.1)).Nodup
  low : ∀ c ∈ C, c.2.2 ≤ r
  led : ∀ c ∈ C, ∃ R, Led S C c.1 R ∧ rowEnd ln wy S R = some c.1 ∧ asides R = c.2.2
  wait : ∀ x ∈ W, Step ln wy S C x r
  later : ∀ x ∈ L, Step ln wy S C x (r + 1)
  start : (∃ c ∈ C, c.1 = S ∧ c.2.2 = 0) ∨ (r = 0 ∧ ∃ x ∈ W, x.1 = S)
  next : ∀ c ∈ C, busy ≠ some c.1 → ∀ ch ∈ allPairs ln wy c.1, Cov r C W L (c.2.2 + asd ch.1) (c.1.set ch.1.2 ch.2)
section
variable {ln : List Int} {wy : List Bool} {S : Stand} {r : Nat} {C : List Came} {W L rest : List (Stand × Way)} {x : Stand × Way} {t : Stand}
theorem Layers.init (ln : List Int) (wy : List Bool) (S : Stand) : Layers ln wy S 0 [] [(S, none)] [] none where
  nodup := List.nodup_nil
  low := fun _ h => by simp at h
  led := fun _ h => by simp at h
  wait := fun x h => by
    rw [List.mem_singleton.mp h]
    exact ⟨rfl, rfl⟩
  later := fun _ h => by simp at h
  start := .inr ⟨rfl, _, List.mem_singleton.mpr rfl, rfl⟩
  next := fun _ h => by simp at h
theorem Layers.rows (l : Layers ln wy S r C W L none) {T : Stand} {R : List Mv} (h : rowEnd ln wy S R = some T) (b : asides R < r ∨ (asides R ≤ r ∧ W = [])) : ∃ c ∈ C, c.1 = T ∧ c.2.2 ≤ asides R := by
  have key : ∀ n (R : List Mv), R.length = n → ∀ T, rowEnd ln wy S R = some T → (asides R < r ∨ (asides R ≤ r ∧ W = [])) → ∃ c ∈ C, c.1 = T ∧ c.2.2 ≤ asides R := by
    intro n
    induction n with
    | zero =>
      intro R hR T h b
      have e := List.eq_nil_of_length_eq_zero hR
      subst e
      simp only [rowEnd] at h
      cases h
      rcases l.start with ⟨c, hc, e1, e2⟩ | ⟨e, x, hx, _⟩
      · exact ⟨c, hc, e1, by omega⟩
      · rcases b with b | ⟨_, b⟩
        · omega
        · rw [b] at hx; cases hx
    | succ n ih =>
      intro R hR T h b
      rcases List.eq_nil_or_concat R with e | ⟨R', m, e⟩
      · subst e; simp at hR
      · rw [List.concat_eq_append] at e
        subst e
        have hl : R'.length = n := by simpa using hR
        obtain ⟨U, hU⟩ := rowEnd_take R'.length h
        rw [List.take_append_of_le_length (Nat.le_refl _), List.take_length] at hU
        rw [rowEnd_snoc hU] at h
        rw [asides_snoc] at b ⊢
        obtain ⟨c, hc, e1, e2⟩ := ih R' hl U hU (by
          rcases b with b | ⟨b, w⟩
          · exact .inl (by omega)
          · exact .inr ⟨by omega, w⟩)
        obtain ⟨s, hs, eT⟩ := behindMv_some h
        have cv := l.next c hc (by simp) (m, s) (by rw [e1]; exact hs)
        dsimp only at cv
        rw [e1, ← eT] at cv
        rcases cv with ⟨c', h1, h2, h3⟩ | ⟨e, y, hy, _⟩ | ⟨e, y, hy, _⟩
        · exact ⟨c', h1, h2, by omega⟩
        · rcases b with b | ⟨_, w⟩
          · omega
          · rw [w] at hy; cases hy
        · rcases b with b | ⟨b, _⟩ <;> omega
  exact key _ R rfl T h b
theorem Layers.old (l : Layers ln wy S r C (rest ++ [x]) L none) (h : x.1 ∈ C.map (·.1)) : Layers ln wy S r C rest L none where
  nodup := l.nodup
  low := l.low
  led := l.led
  wait := fun y hy => l.wait y (by simp [hy])
  later := l.later
  start := by
    obtain ⟨c, hc, e⟩ := List.mem_map.mp h
    rcases l.start with a | ⟨a, y, hy, b⟩
    · exact .inl a
    · rcases List.mem_append.mp hy with hy | hy
      · exact .inr ⟨a, y, hy, b⟩
      · rw [List.mem_singleton.mp hy] at b
        have := l.low c hc
        exact .inl ⟨c, hc, e.trans b, by omega⟩
  next := fun c hc nb ch hch => by
    obtain ⟨c', hc', e⟩ := List.mem_map.mp h
    rcases l.next c hc nb ch hch with a | ⟨a, y, hy, b⟩ | a
    · exact .inl a
    · rcases List.mem_append.mp hy with hy | hy
      · exact .inr (.inl ⟨a, y, hy, b⟩)
      · rw [List.mem_singleton.mp hy] at b
        exact .inl ⟨c', hc', e.trans b, by have := l.low c' hc'; omega⟩
    · exact .inr (.inr a)
theorem Layers.new (l : Layers ln wy S r C (rest ++ [x]) L none) (h : x.1 ∉ C.map (·.1)) : Layers ln wy S r (C ++ [(x.1, x.2, r)]) rest L (some x.1) where
  nodup := by
    rw [List.map_append]
    refine List.nodup_append.mpr ⟨l.nodup, by simp, fun a ha b hb e => ?_⟩
    rw [List.map_singleton, List.mem_singleton] at hb
    rw [e, hb] at ha
    exact h ha
  low := fun c hc => by
    rcases List.mem_append.mp hc with hc | hc
    · exact l.low c hc
    · rw [List.mem_singleton.mp hc]
      exact Nat.le_refl _
  led := fun c hc => by
    have mo : ∀ c ∈ C, c ∈ C ++ [(x.1, x.2, r)] := fun c h => by simp [h]
    rcases List.mem_append.mp hc with hc | hc
    · obtain ⟨R, a, b⟩ := l.led c hc
      exact ⟨R, a.mono mo, b⟩
    · rw [List.mem_singleton.mp hc]
      have st := l.wait x (by simp)
      obtain ⟨T, wy'⟩ := x
      cases wy' with
      | none =>
        obtain ⟨e1, e2⟩ := st
        have e1 : T = S := e1
        subst e1
        exact ⟨[], .start (j := r) (by simp), by simp [rowEnd], by simp [asides, e2]⟩
      | some p =>
        obtain ⟨m, U⟩ := p
        obtain ⟨e1, c', hc', e2, e3⟩ := st
        obtain ⟨R, a1, a2, a3⟩ := l.led c' hc'
        rw [e2] at a1 a2
        exact ⟨R ++ [m], .on (j := r) (by simp) (a1.mono mo), by rw [rowEnd_snoc a2]; exact e1, by rw [asides_snoc, a3, e3]⟩
  wait := fun y hy => (l.wait y (by simp [hy])).mono fun c h => by simp [h]
  later := fun y hy => (l.later y hy).mono fun c h => by simp [h]
  start := by
    rcases l.start with ⟨c, hc, a⟩ | ⟨a, y, hy, b⟩
    · exact .inl ⟨c, by simp [hc], a⟩
    · rcases List.mem_append.mp hy with hy | hy
      · exact .inr ⟨a, y, hy, b⟩
      · rw [List.mem_singleton.mp hy] at b
        exact .inl ⟨_, List.mem_append_right _ (List.mem_singleton.mpr rfl), b, a⟩
  next := fun c hc nb ch hch => by
    have mo : ∀ c ∈ C, c ∈ C ++ [(x.1, x.2, r)] := fun c h => by simp [h]
    rcases List.mem_append.mp hc with hc | hc
    · rcases l.next c hc (by simp) ch hch with ⟨c', a, b⟩ | ⟨a, y, hy, b⟩ | a
      · exact .inl ⟨c', mo _ a, b⟩
      · rcases List.mem_append.mp hy with hy | hy
        · exact .inr (.inl ⟨a, y, hy, b⟩)
        · rw [List.mem_singleton.mp hy] at b
          exact .inl ⟨_, List.mem_append_right _ (List.mem_singleton.mpr rfl), b, by show r ≤ _; omega⟩
      · exact .inr (.inr a)
    · rw [List.mem_singleton.mp hc] at nb
      exact absurd rfl nb
/-- one more waits -/
theorem Layers.more (l : Layers ln wy S r C W L (some t)) {W' L' : List (Stand × Way)} (h1 : ∀ y ∈ W, y ∈ W') (h2 : ∀ y ∈ L, y ∈ L') (k1 : ∀ y ∈ W', y ∈ W ∨ Step ln wy S C y r) (k2 : ∀ y ∈ L', y ∈ L ∨ Step ln wy S C y (r + 1)) : Layers ln wy S r C W' L' (some t) where
  nodup := l.nodup
  low := l.low
  led := l.led
  wait := fun y hy => (k1 y hy).elim (l.wait y) id
  later := fun y hy => (k2 y hy).elim (l.later y) id
  start := l.start.imp id fun ⟨a, y, hy, b⟩ => ⟨a, y, h1 y hy, b⟩
  next := fun c hc nb ch hch => (l.next c hc nb ch hch).mono (fun _ h => h) h1 h2
theorem Layers.idle (l : Layers ln wy S r C W L (some t)) (h : ∀ c ∈ C, c.1 = t → ∀ ch ∈ allPairs ln wy t, Cov r C W L (c.2.2 + asd ch.1) (t.set ch.1.2 ch.2)) : Layers ln wy S r C W L none where
  nodup := l.nodup
  low := l.low
  led := l.led
  wait := l.wait
  later := l.later
  start := l.start
  next := fun c hc _ ch hch => by
    by_cases e : c.1 = t
    · have := h c hc e ch (by rw [← e]; exact hch)
      rw [← e] at this
      exact this
    · exact l.next c hc (fun z => e (Option.some.inj z).symm) ch hch
theorem Layers.turn (l : Layers ln wy S r C [] L none) : Layers ln wy S (r + 1) C L [] none where
  nodup := l.nodup
  low := fun c hc => Nat.le_succ_of_le (l.low c hc)
  led := l.led
  wait := l.later
  later := fun _ h => by cases h
  start := by
    rcases l.start with a | ⟨_, y, hy, _⟩
    · exact .inl a
    · cases hy
  next := fun c hc nb ch hch => by
    rcases l.next c hc nb ch hch with a | ⟨_, y, hy, _⟩ | a
    · exact .inl a
    · cases hy
    · exact .inr (.inl a)
end
/-! ### the end of the search -/
theorem out_is {S : Stand} (h : allOut S = true) : S = List.replicate S.length .out := by
  refine List.eq_replicate_iff.mpr ⟨rfl, fun b hb => ?_⟩
  have := List.all_eq_true.mp h b hb
  simpa using this
theorem out_all (n : Nat) : allOut (List.replicate n .out) = true := by
  refine List.all_eq_true.mpr fun b hb => ?_
  have := List.eq_of_mem_replicate hb
  simp [this]
/-- the price, by a row that no other one goes below in asides -/
theorem price_row {ln : List Int} {wy : List Bool} {S T : Stand} {R : List Mv} (o : OkStand ln wy S) (h : rowEnd ln wy S R = some T) (ha : allOut T = true) (least : ∀ R' T', rowEnd ln wy S R' = some T' → allOut T' = true → asides R ≤ asides R') : priceOf ln wy S = some R.length := by
  obtain ⟨m, hm, le⟩ := price_through _ o (row_through h ha)
  obtain ⟨R1, T1, h1, ha1, l1⟩ := through_row (through_of o hm)
  have e := rowEnd_left o h
  have e1 := rowEnd_left o h1
  rw [left_out ha] at e
  rw [left_out ha1] at e1
  have := least R1 T1 h1 ha1
  have hh : R.length ≤ R1.length := by omega
  rw [hm]
  congr 1
  omega
theorem Layers.price {ln : List Int} {wy : List Bool} {S : Stand} {r : Nat} {C : List Came} {L rest : List (Stand × Way)} {x : Stand × Way} (o : OkStand ln wy S) (l : Layers ln wy S r C (rest ++ [x]) L none) (n : x.1 ∉ C.map (·.1)) (e : x.1 = List.replicate S.length .out) :
    ∃ R, Led S (C ++ [(x.1, x.2, r)]) (List.replicate S.length .out) R ∧ rowEnd ln wy S R = some (List.replicate S.length .out) ∧ priceOf ln wy S = some R.length := by
  obtain ⟨R, a1, a2, a3⟩ := (l.new n).led (x.1, x.2, r) (by simp)
  have a1 : Led S (C ++ [(x.1, x.2, r)]) x.1 R := a1
  have a2 : rowEnd ln wy S R = some x.1 := a2
  have a3 : asides R = r := a3
  have hout : allOut x.1 = true := by rw [e]; exact out_all _
  refine ⟨R, e ▸ a1, e ▸ a2, price_row o a2 hout fun R' T' h' ha' => ?_⟩
  rw [a3]
  rcases Nat.lt_or_ge (asides R') r with lt | ge
  · obtain ⟨c, hc, e1, _⟩ := l.rows h' (.inl lt)
    have eT : T' = x.1 := by
      rw [out_is ha', (rowEnd_ok o h').2, e]
    exact absurd (List.mem_map.mpr ⟨c, hc, e1.trans eT⟩) n
  · exact ge
/-- nothing waits: what was come to is closed -/
theorem Layers.all {ln : List Int} {wy : List Bool} {S : Stand} {r : Nat} {C : List Came} (l : Layers ln wy S r C [] [] none) : S ∈ C.map (·.1) ∧ ∀ T ∈ C.map (·.1), ∀ U ∈ behinds ln wy T, U ∈ C.map (·.1) := by
  refine ⟨?_, fun T hT U hU => ?_⟩
  · rcases l.start with ⟨c, hc, e, _⟩ | ⟨_, y, hy, _⟩
    · exact List.mem_map.mpr ⟨c, hc, e⟩
    · cases hy
  · obtain ⟨c, hc, rfl⟩ := List.mem_map.mp hT
    obtain ⟨ch, hch, rfl⟩ := List.mem_map.mp hU
    rcases l.next c hc (by simp) ch hch with ⟨c', h1, h2, _⟩ | ⟨_, y, hy, _⟩ | ⟨_, y, hy, _⟩
    · exact List.mem_map.mpr ⟨c', h1, h2⟩
    · cases hy
    · cases hy
theorem Layers.reach {ln : List Int} {wy : List Bool} {S : Stand} {r : Nat} {C : List Came} {W L : List (Stand × Way)} {b : Option Stand} (l : Layers ln wy S r C W L b) {T : Stand} (h : T ∈ C.map (·.1)) : Reach ln wy S T := by
  obtain ⟨c, hc, rfl⟩ := List.mem_map.mp h
  obtain ⟨R, _, h2, _⟩ := l.led c hc
  generalize c.1 = T at h2
  have key : ∀ (R : List Mv) (U : Stand), Reach ln wy S U → rowEnd ln wy U R = some T → Reach ln wy S T := fun R => by
    induction R with
    | nil =>
      intro U hU h
      simp only [rowEnd] at h
      cases h
      exact hU
    | cons m R ih =>
      intro U hU h
      simp only [rowEnd] at h
      cases e : behindMv ln wy U m with
      | none => rw [e] at h; cases h
      | some V =>
        rw [e] at h
        exact ih V (.on hU (behindMv_mem e)) h
  exact key R S .here h2
/-- a closed set without the end: no price -/
theorem closed_shutW {ln : List Int} {wy : List Bool} {S : Stand} {M : List Stand} (o : OkStand ln wy S) (hS : S ∈ M) (next : ∀ T ∈ M, ∀ U ∈ behinds ln wy T, U ∈ M) (no : ∀ T ∈ M, allOut T = false) : priceOf ln wy S = none := by
  refine (shut o).mpr fun n t => ?_
  have key : ∀ {U : Stand} {k : Nat}, Through ln wy U k → U ∈ M → False := fun {U k} t => by
    induction t with
    | out h => intro hU; rw [no _ hU] at h; cases h
    | on hT _ ih => exact fun hU => ih (next _ hU _ hT)
  exact key t hS
end Sl

set_option Elab.async false
set_option linter.all false
set_option maxRecDepth 100000
set_option maxHeartbeats 4000000
namespace Slx
open PySem PySem.Spec PyProof.Rows L2 Sl
theorem eqv_st (S T : Stand) : PyData.eqv (dSt S) (dSt T) = decide (S = T) := by
  rw [← kSt_data, ← kSt_data, eqv_key]
  by_cases h : S = T
  · subst h
    rw [NestedKey.beq_self, decide_eq_true rfl]
  · rw [decide_eq_false h]
    cases e : NestedKey.beq (kSt S) (kSt T) with
    | false => rfl
    | true => exact absurd (kSt_inj (NestedKey.eq_of_beq _ _ e)) h
theorem word_asideS (w : Wd) : decide (V.str (dW w) = .str "aside") = decide (w = .aside) := by cases w <;> decide
def dWay : Way → PyData
  | none => .none
  | some (m, U) => .tuple [dM m, dSt U]
def dWait (x : Stand × Way) : PyData := .tuple [dSt x.1, dWay x.2]
/-- the dict at d holds what was come to -/
def CameAt (P : Program) (w : World) (H : Hp) (d : Addr) (ks : List Ent) (C : List Came) : Prop := DN P w H d ks ∧ ks.length = C.length ∧ ∀ (i : Nat) (e : Ent) (c : Came), ks[i]? = some e → C[i]? = some c → e.1 = kSt c.1 ∧ Im H e.2.2 (dWay c.2.1)
section
variable {P : Program} {w : World} {H H' : Hp} {d : Addr} {ks : List Ent} {C : List Came}
theorem CameAt.same (c : CameAt P w H d ks C) (s : Same H H') : CameAt P w H' d ks C := by
  obtain ⟨dn, l, f⟩ := c
  exact ⟨dn.same s, l, fun i e c h1 h2 => ⟨(f i e c h1 h2).1, (f i e c h1 h2).2.mono (Ti.of s)⟩⟩
theorem CameAt.lst (c : CameAt P w H d ks C) {a : Addr} {xs ys : List V} (h : H a = some (.lst xs)) : CameAt P w (upd H a (.lst ys)) d ks C := by
  obtain ⟨dn, l, f⟩ := c
  exact ⟨dn.lst h, l, fun i e c h1 h2 => ⟨(f i e c h1 h2).1, (f i e c h1 h2).2.mono (Ti.lst h)⟩⟩
theorem CameAt.of (c : CameAt P w H d ks C) : Of ks (C.map (·.1)) := by
  obtain ⟨_, l, f⟩ := c
  refine List.ext_getElem? fun i => ?_
  rw [List.getElem?_map, List.getElem?_map, List.getElem?_map]
  rcases Nat.lt_or_ge i ks.length with h | h
  · have h2 : i < C.length := by omega
    rw [List.getElem?_eq_getElem h, List.getElem?_eq_getElem h2]
    exact congrArg some (f i _ _ (List.getElem?_eq_getElem h) (List.getElem?_eq_getElem h2)).1
  · rw [List.getElem?_eq_none h, List.getElem?_eq_none (by omega)]
    rfl
theorem CameAt.put (c : CameAt P w H d ks C) {T : Stand} (n : T ∉ C.map (·.1)) {b : Addr} {v : V} {wy : Way} {r : Nat} (hb : KeyAt H b (kSt T)) (hv : Im H v (dWay wy)) : CameAt P w (upd H d (dNO P w d (putN ks (kSt T) b v))) d (putN ks (kSt T) b v) (C ++ [(T, wy, r)]) := by
  have of := c.of
  obtain ⟨dn, l, f⟩ := c
  have new : putN ks (kSt T) b v = ks ++ [(kSt T, b, v)] := put_new (by rw [of.mem, decide_eq_false n])
  refine ⟨dn.put v hb, by rw [new]; simp [l], fun i e c h1 h2 => ?_⟩
  rw [new] at h1
  have tl := Ti.dict (u := dNO P w d (putN ks (kSt T) b v)) dn.at_
  by_cases h : i < ks.length
  · rw [List.getElem?_append_left h] at h1
    rw [List.getElem?_append_left (by omega)] at h2
    exact ⟨(f i e c h1 h2).1, (f i e c h1 h2).2.mono tl⟩
  · have hi : i = ks.length := by
      have := lt_of_some h1
      simp at this
      omega
    subst hi
    simp at h1
    rw [l] at h2
    simp at h2
    subst h1 h2
    exact ⟨rfl, hv.mono tl⟩
/-- what the dict tells of a stand -/
theorem CameAt.get (c : CameAt P w H d ks C) (nd : (C.map (·.1)).Nodup) {T : Stand} {wy : Way} {j : Nat} (h : (T, wy, j) ∈ C) : ∃ v, valN ks (kSt T) = some v ∧ Im H v (dWay wy) := by
  have of := c.of
  obtain ⟨dn, l, f⟩ := c
  obtain ⟨i, hi⟩ := List.mem_iff_getElem?.mp h
  have hk : i < ks.length := by rw [l]; exact lt_of_some hi
  obtain ⟨e1, e2⟩ := f i ks[i] _ (List.getElem?_eq_getElem hk) hi
  have nk : (ks.map (·.1)).Nodup := by
    rw [of]
    exact List.pairwise_map.mpr (nd.imp fun h e => h (kSt_inj e))
  have z := val_at nk (List.getElem?_eq_getElem hk)
  rw [e1] at z
  exact ⟨_, z, e2⟩
end
/-- what the search has found: the end, by a row as the price is, or a closed set -/
def CameRes (ln : List Int) (wy : List Bool) (S : Stand) (C : List Came) : Prop := ((C.map (·.1)).Nodup ∧ C.length ≤ 200000) ∧
  ((∃ R, List.replicate S.length .out ∈ C.map (·.1) ∧ Led S C (List.replicate S.length .out) R ∧ rowEnd ln wy S R = some (List.replicate S.length .out) ∧ priceOf ln wy S = some R.length) ∨
    (List.replicate S.length .out ∉ C.map (·.1) ∧ priceOf ln wy S = none ∧ S ∈ C.map (·.1) ∧ Shut ln wy (C.map (·.1))))
theorem came_few {ln : List Int} {wy : List Bool} {S : Stand} {r : Nat} {C : List Came} {W L : List (Stand × Way)} {b : Option Stand} (o : OkStand ln wy S) (few : Few ln S) (l : Layers ln wy S r C W L b) : C.length ≤ 200000 := by
  have h := stands_few l.nodup fun T hT => ⟨((l.reach hT).ok o).2, ((l.reach hT).ok o).1.spot⟩
  rw [List.length_map] at h
  exact Nat.le_trans h few
theorem step_new {ln : List Int} {wy : List Bool} {S T : Stand} {C : List Came} {r : Nat} {st : Way} {ch : Mv × Spot} (hc : (T, st, r) ∈ C) (h : ch ∈ allPairs ln wy T) : Sl.Step ln wy S C (T.set ch.1.2 ch.2, some (ch.1, T)) (r + asd ch.1) :=
  ⟨behindMv_of h, _, hc, rfl, rfl⟩
section
variable {P : Program} {w : World} {K : PySem.W.Frag} {mg : Str → Option Value} {base : Heap}
def spSearched (P : Program) (w : World) (K : PySem.W.Frag) : Sp := fun vs H Q _ => AskS K vs H fun ln wy S => ∀ (H' : Hp) (d : Addr) (ks : List Ent) (C : List Came), Same H H' → H d = none → CameAt P w H' d ks C → CameRes ln wy S C → Q (.ref d) H'
theorem ok_searched (T : Txt K mg) : DefOk P w K mg base 5 "searched" ["lane", "ways", "stand"] (spSearched P w K) := by
  have D_allTracks : DefOk P w K mg base 4 "all_tracks" ["lane", "ways"] (spAllTracks P w K) := ok_allTracks T
  have D_allOut : DefOk P w K mg base 1 "all_out" ["trains"] (spAllOut K) := ok_allOut T
  have D_steps : DefOk P w K mg base 1 "steps" ["tracks", "stand"] (spSteps P w K) := ok_steps T
  refine T.f_searched.ok sc_searched (fun vs H Q E h => by obtain ⟨a, b, c, ln, wy, S, rfl, _⟩ := h; rfl) (fun f cdv A outer s H vs Q E hr h => ?_)
  obtain ⟨a, b, c, ln, wy, S, rfl, hL, hW, hS, ok, few, q⟩ := h
  refine ⟨_, (pss_cons (ps_set (i := 3) sc_searched.nd rfl (.inl rfl) (pe_def D_allTracks (hr.mono (by omega)) (pa_cons (pv 0) (pa_cons (pv 1) pa_nil))))
      (pss_cons (ps_set (i := 4) sc_searched.nd rfl (.inl rfl) (pe_def D_allOut (hr.mono (by omega)) (pa_cons (pe_callB call_len_seq (by rfl) T.b_len (by decide +kernel) (pa_cons (pv 1) pa_nil)) pa_nil)))
      (pss_cons (ps_set (i := 5) sc_searched.nd rfl (.inl rfl) (pe_nnew (P := P) (w := w)))
      (pss_cons (ps_set (i := 6) sc_searched.nd rfl (.inl rfl) (pe_lst (pa_cons (pe_tupF (pa_cons (pv 2) (pa_cons pe_non pa_nil))) pa_nil)))
      (pss_cons (ps_while PassesOwn.never (pt_truth (pv 6) (by intro _; rfl)) (pss_cons (ps_set (i := 7) sc_searched.nd rfl (.inl rfl) (pe_lst pa_nil))
      (pss_cons (ps_while PassesOwn.never (pt_truth (pv 6) (by intro _; rfl)) (pss_cons (ps_asg (pe_bm0 PySem.F.plainAttrs_list PySem.F.slot_list_pop PySem.F.type_list_pop mt_pop (pv 6)) (pg_tup rfl (pgs_cons (pg_name (i := 8) sc_searched.nd rfl (.inl rfl)) (pgs_cons (pg_name (i := 9) sc_searched.nd rfl (.inl rfl)) pgs_nil))))
      (pss_cons (ps_if (pt_cmp (pc_nin (P := P) (w := w) (hu9 hr) (pv 8) (pv 5))) (pss_one ps_continue) pss_nil)
      (pss_cons (ps_nput (P := P) (w := w) (hu9 hr) (pv 5) (pv 8) (pv 9) (by rfl))
      (pss_cons (ps_if (pt_cmpR (r := rEqD K) (op_eqD (hu64 hr)) (pv 8) (pv 4) (nomark _)) (pss_one (ps_ret (pv 5))) pss_nil)
      (pss_one (ps_for PassesOwn.never rfl (pi_listK (K := K) (pe_def D_steps (hr.mono (by omega)) (pa_cons (pv 3) (pa_cons (pv 8) pa_nil)))) (pg_tup rfl (pgs_cons (pg_name (i := 10) sc_searched.nd rfl (.inl rfl)) (pgs_cons (pg_name (i := 11) sc_searched.nd rfl (.inl rfl)) pgs_nil))) (pss_one (ps_if (pt_cmpR op_eq (pe_ix (r := rIxT K) ix_tup (pv 10) pe_int (fun _ _ => rfl)) pe_str (nomark _)) (pss_one (ps_expr (pe_bm PySem.F.plainAttrs_list PySem.F.slot_list_append PySem.F.type_list_append mt_append (pv 7) (pa_cons (pe_tupF (pa_cons (pv 11) (pa_cons (pe_tupF (pa_cons (pv 10) (pa_cons (pv 8) pa_nil))) pa_nil))) pa_nil)))) (pss_one (ps_expr (pe_bm PySem.F.plainAttrs_list PySem.F.slot_list_append PySem.F.type_list_append mt_append (pv 6) (pa_cons (pe_tupF (pa_cons (pv 11) (pa_cons (pe_tupF (pa_cons (pv 10) (pa_cons (pv 8) pa_nil))) pa_nil))) pa_nil)))))))))))))
      (pss_one (ps_set (i := 6) sc_searched.nd rfl (.inl rfl) (pv 7))))))
      (pss_one (ps_ret (pv 5)))))))), ?_⟩
  refine ⟨.ref a, rfl, .ref b, rfl, a, b, ln, wy, rfl, hL, hW, ⟨ok.lane, ok.most⟩, fun H1 t s1 ht tr _ => ?_⟩
  have o1 := ok.one
  have o6 := ok.most
  have ol := ok.len
  refine ⟨.ref b, rfl, b, _, rfl, .inl (s1.seq hW), _, rfl, ⟨by rw [List.length_map]; exact o1, by rw [List.length_map]; exact o6⟩, fun B en s2 hen => ?_⟩
  rw [List.length_map, ← ol] at hen
  have sB := s1.trans s2
  have trB := tr.same s2
  have hSB := hS.mono (Ti.of sB)
  clear tr hL hW
  refine fun d hd => ?_
  have hdH : H d = none := sB.free hd
  have sd := same_new (o := dNO P w d []) hd
  refine ⟨.ref c, rfl, two_size, nT_q fun G0 p0 s0 t0 => ⟨one_size, fun w0 hw0 => ?_⟩⟩
  have sw := same_new (o := .lst [.ref p0]) hw0
  have sG0 := sd.trans s0
  have hw0B : B w0 = none := sG0.free hw0
  have c0 : CameAt P w (upd B d (dNO P w d [])) d [] [] := ⟨⟨upd_same, fun _ h => nomatch h⟩, rfl, fun i e c h => by simp at h⟩
  refine ⟨fun m σ G => ∃ (wa : Addr) (ks : List Ent) (r : Nat) (C : List Came) (Wt : List (Stand × Way)) (xs : List V) (y7 y8 y9 y10 y11 : Option V), Same B G ∧ B wa = none ∧ (G wa = some (.lst xs) ∧ ImAll G xs (Wt.map dWait)) ∧ CameAt P w G d ks C ∧ (Layers ln wy S r C Wt [] none ∧ List.replicate S.length .out ∉ C.map (·.1)) ∧ Wt.length ≤ 12 * C.length + 1 ∧
      σ = [some (.ref a), some (.ref b), some (.ref c), some (.ref t), some (.ref en), some (.ref d), some (.ref wa), y7, y8, y9, y10, y11] ∧ m = 13 * (200000 - C.length) + Wt.length,
    ⟨_, w0, [], 0, [], [(S, none)], [.ref p0], none, none, none, none, none, sG0.trans sw, hw0B, ⟨upd_same, .cons (.tup (Ti.of sw _ _ t0) (.cons (Im.mono (Ti.of (sG0.trans sw)) hSB.im) (.cons .non .nil))) .nil⟩, (c0.same s0).same sw, ⟨Layers.init ln wy S, by simp⟩, Nat.le_refl _, rfl, rfl⟩, ?_⟩
  rintro m σ G ⟨wa, ks, r, C, Wt, xs, y7, y8, y9, y10, y11, sG, hwa, ⟨ew, iw⟩, ca, ⟨la, noEnd⟩, wn, rfl, hm⟩
  have lw : xs.length = Wt.length := by rw [iw.length, List.length_map]
  refine ⟨.ref wa, rfl, _, .inl ⟨xs, .inl (.inl ew), rfl⟩, ?_⟩
  cases hxe : xs.isEmpty with
  | true =>
    have hx : xs = [] := List.isEmpty_iff.mp hxe
    have hW0 : Wt = [] := List.eq_nil_of_length_eq_zero (by rw [← lw, hx]; rfl)
    subst hW0
    refine iteF ⟨.ref d, rfl, ?_⟩
    obtain ⟨hSC, hcl⟩ := la.all
    have okC : ∀ U ∈ C.map (·.1), OkStand ln wy U := fun U hU => ((la.reach hU).ok ok).1
    have noOut : ∀ U ∈ C.map (·.1), allOut U = false := fun U hU => by
      cases e : allOut U with
      | false => rfl
      | true =>
        have e2 := out_is e
        rw [((la.reach hU).ok ok).2] at e2
        rw [e2] at hU
        exact absurd hU noEnd
    exact q G d ks C (sB.trans sG) hdH ca ⟨⟨la.nodup, came_few ok few la⟩, .inr ⟨noEnd, closed_shutW ok hSC hcl noOut, hSC, ⟨okC, noOut, hcl⟩⟩⟩
  | false =>
  have hWne : Wt ≠ [] := fun e => by
    rw [e] at lw
    have := List.eq_nil_of_length_eq_zero lw
    rw [this] at hxe
    cases hxe
  refine iteT ⟨_, fun σ' H' n => n, ?_⟩
  refine ⟨Nat.zero_le _, fun lt hlt => ?_⟩
  have slt := same_new (o := .lst []) hlt
  have hltB : B lt = none := sG.free hlt
  have nlw : lt ≠ wa := fun e => by rw [e, ew] at hlt; cases hlt
  have nld : lt ≠ d := fun e => by rw [e, ca.1.at_] at hlt; cases hlt
  have nwd : wa ≠ d := fun e => by rw [e, ca.1.at_] at ew; cases ew
  refine ⟨fun m' σ G => ∃ (ks : List Ent) (C : List Came) (Wt Lt : List (Stand × Way)) (xs zs : List V) (y8 y9 y10 y11 : Option V), Same B G ∧ (G wa = some (.lst xs) ∧ ImAll G xs (Wt.map dWait)) ∧ (G lt = some (.lst zs) ∧ ImAll G zs (Lt.map dWait)) ∧ CameAt P w G d ks C ∧ (Layers ln wy S r C Wt Lt none ∧ List.replicate S.length .out ∉ C.map (·.1)) ∧ Wt.length + Lt.length ≤ 12 * C.length + 1 ∧
      σ = [some (.ref a), some (.ref b), some (.ref c), some (.ref t), some (.ref en), some (.ref d), some (.ref wa), some (.ref lt), y8, y9, y10, y11] ∧ m' = 13 * (200000 - C.length) + Wt.length + Lt.length ∧ m' ≤ m ∧ (Wt = [] → m' < m),
    ⟨_, ks, C, Wt, [], xs, [], _, _, _, _, sG.trans slt, ⟨slt _ _ ew, iw.mono (Ti.of slt)⟩, ⟨upd_same, .nil⟩, ca.same slt, ⟨la, noEnd⟩, by simpa using wn, rfl, rfl, by rw [hm]; simp, fun e => absurd e hWne⟩, ?_⟩
  clear hm wn noEnd la ca iw ew sG slt hxe hWne lw
  clear y7 y8 y9 y10 y11 ks C Wt xs G hlt
  rintro m' σ G ⟨ks, C, Wt, Lt, xs, zs, y8, y9, y10, y11, sG, ⟨ew, iw⟩, ⟨el, il⟩, ca, ⟨la, noEnd⟩, wn, rfl, hm, hle, hlt⟩
  have lw : xs.length = Wt.length := by rw [iw.length, List.length_map]
  have lz : zs.length = Lt.length := by rw [il.length, List.length_map]
  have lC := came_few ok few la
  refine ⟨.ref wa, rfl, _, .inl ⟨xs, .inl (.inl ew), rfl⟩, ?_⟩
  rcases List.eq_nil_or_concat Wt with hW0 | ⟨rest, x, hWc⟩
  · subst hW0
    have hx : xs = [] := List.eq_nil_of_length_eq_zero (by rw [lw]; rfl)
    subst hx
    refine iteF ⟨.ref lt, rfl, ?_⟩
    have hlt' := hlt rfl
    refine ⟨m', hlt', lt, ks, r + 1, C, Lt, zs, _, _, _, _, _, sG, hltB, ⟨el, il⟩, ca, ⟨la.turn, noEnd⟩, by simpa using wn, rfl, by rw [hm]; simp⟩
  rw [List.concat_eq_append] at hWc
  subst hWc
  have lx : xs.length = rest.length + 1 := by rw [lw, List.length_append]; rfl
  have hne : (!xs.isEmpty) = true := by
    cases xs with
    | nil => simp at lx
    | cons x xs => rfl
  rw [hne]
  refine iteT ⟨_, fun σ' H' n => n, ?_⟩
  obtain ⟨T, st⟩ := x
  obtain ⟨v, ev, iv⟩ := iw.get (i := rest.length) (d := dWait (T, st)) (by simp)
  obtain ⟨pt, u1, u2, rfl, tt, i1, i2⟩ := im_two iv
  obtain ⟨ps, rfl, hps⟩ := im_standAt i1
  have ed : xs.dropLast = xs.take rest.length := by rw [List.dropLast_eq_take, lx]; rfl
  have ir : ImAll G (xs.take rest.length) (rest.map dWait) := by
    have z := iw.take rest.length
    have e1 : rest.length = (rest.map dWait).length := (List.length_map ..).symm
    rw [List.map_append, List.take_append_of_le_length (Nat.le_of_eq e1), List.take_of_length_le (Nat.le_of_eq e1.symm)] at z
    exact z
  refine ⟨.ref wa, rfl, .inl ⟨rfl, _, .inl (.inl ew)⟩, wa, xs, .ref pt, rfl, rfl, ew, by rw [lx]; exact ev, ?_⟩
  rw [ed]
  have tl := Ti.lst (o := .lst (xs.take rest.length)) ew
  have s3 := same_mut (o := .lst (xs.take rest.length)) sG hwa
  have ew1 : upd G wa (.lst (xs.take rest.length)) wa = some (.lst (xs.take rest.length)) := upd_same
  have el1 : upd G wa (.lst (xs.take rest.length)) lt = some (.lst zs) := by rw [upd_ne nlw]; exact el
  have ca1 := ca.lst (ys := xs.take rest.length) ew
  have tt1 := tl _ _ tt
  have hps1 := hps.mono tl
  have ist1 := i2.mono tl
  have ir1 := ir.mono tl
  have il1 := il.mono tl
  have lxr : (xs.take rest.length).length = rest.length := by rw [List.length_take]; omega
  generalize upd G wa (.lst (xs.take rest.length)) = G1 at s3 ew1 el1 ca1 tt1 hps1 ist1 ir1 il1
  generalize xs.take rest.length = xr at ew1 ir1 lxr
  clear iv i1 i2 tt hps ir il ca ew el iw tl ev ed hne lx sG
  refine ⟨pt, _, rfl, tt1.sq, rfl, _, _, rfl, _, _, rfl, rfl, ?_⟩
  refine ⟨.ref ps, rfl, .ref d, rfl, d, ps, ks, kSt T, ⟨rfl, rfl⟩, ⟨ca1.1.rd, hps1.key⟩, _, rfl, ?_⟩
  rw [ca1.of.mem]
  rw [List.length_append, List.length_singleton] at hm wn
  by_cases hT : T ∈ C.map (·.1)
  · rw [decide_eq_true hT]
    exact iteT ⟨_, by omega, ks, C, rest, Lt, xr, zs, _, _, _, _, s3, ⟨ew1, ir1⟩, ⟨el1, il1⟩, ca1, ⟨la.old hT, noEnd⟩, by omega, rfl, rfl, by omega, fun _ => by omega⟩
  rw [decide_eq_false hT]
  refine iteF ?_
  have lb := la.new hT
  have few2 := came_few ok few lb
  rw [List.length_append, List.length_singleton] at few2
  refine ⟨u2, rfl, .ref d, rfl, .ref ps, rfl, d, ps, ks, kSt T, ⟨rfl, rfl⟩, ⟨ca1.1, hps1.key⟩, ?_, ?_⟩
  · rw [ca1.2.1]
    exact Nat.lt_of_le_of_lt (by omega : _ ≤ 200000) (by decide)
  have ca2 := ca1.put (r := r) hT hps1.key ist1
  have tl2 := Ti.dict (u := dNO P w d (putN ks (kSt T) ps u2)) ca1.1.at_
  have s4 := same_mut (o := dNO P w d (putN ks (kSt T) ps u2)) s3 hd
  have ew2 : upd G1 d (dNO P w d (putN ks (kSt T) ps u2)) wa = some (.lst xr) := by rw [upd_ne nwd]; exact ew1
  have el2 : upd G1 d (dNO P w d (putN ks (kSt T) ps u2)) lt = some (.lst zs) := by rw [upd_ne nld]; exact el1
  have hps2 := hps1.mono tl2
  have ir2 := ir1.mono tl2
  have il2 := il1.mono tl2
  generalize upd G1 d (dNO P w d (putN ks (kSt T) ps u2)) = G2 at ca2 s4 ew2 el2 hps2 ir2 il2
  generalize putN ks (kSt T) ps u2 = ks2 at ca2
  have henG := hen.mono (Ti.of s4)
  refine ⟨.ref ps, rfl, .ref en, rfl, dSt T, dSt (List.replicate S.length .out), hps2.im.dp, henG.im.dp, shaped_stand _, shaped_stand _, _, rfl, ?_⟩
  rw [eqv_st]
  refine ite2 (fun e => ?_) (fun e => ?_)
  · have e' := of_decide_eq_true e
    subst e'
    obtain ⟨R, r1, r2, r3⟩ := la.price ok hT rfl
    exact ⟨.ref d, rfl, q G2 d ks2 _ (sB.trans s4) hdH ca2 ⟨⟨lb.nodup, by simp; omega⟩, .inl ⟨R, by simp, r1, r2, r3⟩⟩⟩
  have nT : T ≠ List.replicate S.length .out := fun z => e (decide_eq_true z)
  have noEnd2 : List.replicate S.length .out ∉ (C ++ [((T, st).1, (T, st).2, r)]).map (·.1) := by
    rw [List.map_append]
    intro h
    rcases List.mem_append.mp h with h | h
    · exact noEnd h
    · simp at h
      exact nT h.symm
  have okT := (lb.reach (T := T) (by simp)).ok ok
  have lC2 : (C ++ [((T, st).1, (T, st).2, r)]).length = C.length + 1 := by simp
  have hTin : (T, st, r) ∈ C ++ [((T, st).1, (T, st).2, r)] := by simp
  have only : ∀ c ∈ C ++ [((T, st).1, (T, st).2, r)], c.1 = T → c.2.2 = r := fun c hc e => by
    rcases List.mem_append.mp hc with hc | hc
    · exact absurd (List.mem_map.mpr ⟨c, hc, e⟩) hT
    · rw [List.mem_singleton.mp hc]
  generalize C ++ [((T, st).1, (T, st).2, r)] = C2 at lb ca2 noEnd2 lC2 hTin only
  have lb : Layers ln wy S r C2 rest Lt (some T) := lb
  clear la ca1 hT noEnd
  refine ⟨.ref t, rfl, .ref ps, rfl, t, ps, ln, wy, T, rfl, trB.same s4, hps2, okT.1, fun G3 ml ms s5 hml eml iml => ⟨ml, rfl, ⟨_, .inl (.inl eml)⟩, ?_⟩⟩
  have lm : ms.length = (allPairs ln wy T).length := by rw [iml.length, List.length_map]
  have lb12 : (allPairs ln wy T).length ≤ 12 := by
    have z := behinds_len ln wy T
    rw [okT.2] at z
    have z2 : (behinds ln wy T).length = (allPairs ln wy T).length := List.length_map ..
    omega
  have nmw : ml ≠ wa := fun e => by rw [e, ew2] at hml; cases hml
  have nml : ml ≠ lt := fun e => by rw [e, el2] at hml; cases hml
  refine for_it (walk_list (K := K) (a := ml) (xs := ms)) (fun i σ U => ∃ (Wt Lt' : List (Stand × Way)) (xs zs : List V) (y10 y11 : Option V), Same B U ∧ (U ml = some (.lst ms) ∧ Ti G3 U) ∧ (U wa = some (.lst xs) ∧ ImAll U xs (Wt.map dWait)) ∧ (U lt = some (.lst zs) ∧ ImAll U zs (Lt'.map dWait)) ∧ CameAt P w U d ks2 C2 ∧
      (Layers ln wy S r C2 Wt Lt' (some T) ∧ ∀ ch ∈ (allPairs ln wy T).take i, Cov r C2 Wt Lt' (r + asd ch.1) (T.set ch.1.2 ch.2)) ∧ Wt.length + Lt'.length = rest.length + Lt.length + i ∧ σ = [some (.ref a), some (.ref b), some (.ref c), some (.ref t), some (.ref en), some (.ref d), some (.ref wa), some (.ref lt), some (.ref ps), some u2, y10, y11])
    ⟨rest, Lt, xr, zs, _, _, s4.trans s5, ⟨eml, Ti.refl _⟩, ⟨s5 _ _ ew2, ir2.mono (Ti.of s5)⟩, ⟨s5 _ _ el2, il2.mono (Ti.of s5)⟩, ca2.same s5, ⟨lb, by simp⟩, rfl, rfl⟩ (fun i σ U _ pv => by
      obtain ⟨_, _, _, _, _, _, _, ⟨e, _⟩, _⟩ := pv
      exact .inl (.inl e)) (fun i x σ U U' hi pv y => ?_) (fun σ U pv => ?_)
  · obtain ⟨Wt, Lt', xs, zs, y10, y11, su, ⟨eu, tu⟩, ⟨ewu, iwu⟩, ⟨elu, ilu⟩, cau, ⟨lau, cov⟩, lnu, rfl⟩ := pv
    obtain ⟨rfl, ex⟩ := y
    obtain ⟨dd, edd, imd⟩ := iml.getV ex
    rw [List.getElem?_map] at edd
    cases ec : (allPairs ln wy T)[i]? with
    | none => rw [ec] at edd; cases edd
    | some ch =>
    rw [ec] at edd
    cases edd
    obtain ⟨pp, v1, v2, rfl, tp, i1, i2⟩ := im_two (Im.mono tu imd)
    obtain ⟨tm, rfl, hmv⟩ := im_move i1
    obtain ⟨pu, rfl, hpu⟩ := im_standAt i2
    have hchm := mem_of_some ec
    have lxs : xs.length = Wt.length := by rw [iwu.length, List.length_map]
    have lzs : zs.length = Lt'.length := by rw [ilu.length, List.length_map]
    have bound : rest.length + Lt.length + 12 ≤ 3000000 := by omega
    have hi12 : i < 12 := by omega
    have big : (3000000 : Nat) < sizeLine := by decide
    refine ⟨pp, _, rfl, tp.sq, rfl, _, _, rfl, _, _, rfl, rfl, ?_⟩
    refine ⟨.ref tm, rfl, tm, _, 0, _, rfl, rfl, hmv.sq, at0, rfl, _, rfl, ?_⟩
    rw [word_asideS]
    have mvk : Step ln wy S C2 (T.set ch.1.2 ch.2, some (ch.1, T)) (r + asd ch.1) := step_new hTin hchm
    by_cases ha : ch.1.1 = .aside
    · have as1 : asd ch.1 = 1 := by unfold asd; rw [if_pos ha]
      rw [decide_eq_true ha]
      rw [as1] at mvk
      refine iteT ⟨.ref lt, rfl, .inl ⟨rfl, _, .inl (.inl elu)⟩, .ref pu, rfl, .ref tm, rfl, .ref ps, rfl, two_size, nT_q fun U1 q1 v1 g1 => ⟨two_size, nT_q fun U2 q2 v2 g2 => ?_⟩⟩
      have v12 := v1.trans v2
      refine ⟨lt, zs, _, rfl, rfl, v12 _ _ elu, by omega, ?_⟩
      have tl3 := Ti.lst (o := .lst (zs ++ [.ref q2])) (v12 _ _ elu)
      have tt3 := (Ti.of v12).trans tl3
      have hpsU : StandAt U' ps T := hps2.mono ((Ti.of s5).trans tu)
      have l2 := lau.more (W' := Wt) (L' := Lt' ++ [(T.set ch.1.2 ch.2, some (ch.1, T))]) (fun y h => h) (fun y h => by simp [h]) (fun y h => .inl h) (fun y h => by
        rcases List.mem_append.mp h with h | h
        · exact .inl h
        · rw [List.mem_singleton.mp h]; exact .inr mvk)
      refine ⟨Wt, Lt' ++ [(T.set ch.1.2 ch.2, some (ch.1, T))], xs, _, _, _, same_mut (su.trans v12) hltB, ⟨by rw [upd_ne nml]; exact v12 _ _ eu, tu.trans tt3⟩, ⟨by rw [upd_ne (Ne.symm nlw)]; exact v12 _ _ ewu, iwu.mono tt3⟩, ⟨upd_same, ?_⟩, (cau.same v12).lst (v12 _ _ elu), ⟨l2, fun c2 hc2 => ?_⟩, by rw [List.length_append, List.length_singleton]; omega, rfl⟩
      · rw [List.map_append]
        refine (ilu.mono tt3).append (.cons (.tup (tl3 _ _ g2) (.cons (hpu.im.mono tt3) (.cons ?_ .nil))) .nil)
        exact .tup (((Ti.of v2).trans tl3) _ _ g1) (.cons ((MoveAt.im hmv).mono tt3) (.cons (hpsU.im.mono tt3) .nil))
      · rw [take_snoc ec] at hc2
        rcases List.mem_append.mp hc2 with h | h
        · exact (cov c2 h).mono (fun _ h => h) (fun _ h => h) fun y h => by simp [h]
        · rw [List.mem_singleton.mp h, as1]
          exact .inr (.inr ⟨rfl, _, List.mem_append_right _ (List.mem_singleton.mpr rfl), rfl⟩)
    · have as0 : asd ch.1 = 0 := by unfold asd; rw [if_neg ha]
      rw [decide_eq_false ha]
      rw [as0] at mvk
      refine iteF ⟨.ref wa, rfl, .inl ⟨rfl, _, .inl (.inl ewu)⟩, .ref pu, rfl, .ref tm, rfl, .ref ps, rfl, two_size, nT_q fun U1 q1 v1 g1 => ⟨two_size, nT_q fun U2 q2 v2 g2 => ?_⟩⟩
      have v12 := v1.trans v2
      refine ⟨wa, xs, _, rfl, rfl, v12 _ _ ewu, by omega, ?_⟩
      have tl3 := Ti.lst (o := .lst (xs ++ [.ref q2])) (v12 _ _ ewu)
      have tt3 := (Ti.of v12).trans tl3
      have hpsU : StandAt U' ps T := hps2.mono ((Ti.of s5).trans tu)
      have l2 := lau.more (W' := Wt ++ [(T.set ch.1.2 ch.2, some (ch.1, T))]) (L' := Lt') (fun y h => by simp [h]) (fun y h => h) (fun y h => by
        rcases List.mem_append.mp h with h | h
        · exact .inl h
        · rw [List.mem_singleton.mp h]; exact .inr mvk) (fun y h => .inl h)
      refine ⟨Wt ++ [(T.set ch.1.2 ch.2, some (ch.1, T))], Lt', _, zs, _, _, same_mut (su.trans v12) hwa, ⟨by rw [upd_ne nmw]; exact v12 _ _ eu, tu.trans tt3⟩, ⟨upd_same, ?_⟩, ⟨by rw [upd_ne nlw]; exact v12 _ _ elu, ilu.mono tt3⟩, (cau.same v12).lst (v12 _ _ ewu), ⟨l2, fun c2 hc2 => ?_⟩, by rw [List.length_append, List.length_singleton]; omega, rfl⟩
      · rw [List.map_append]
        refine (iwu.mono tt3).append (.cons (.tup (tl3 _ _ g2) (.cons (hpu.im.mono tt3) (.cons ?_ .nil))) .nil)
        exact .tup (((Ti.of v2).trans tl3) _ _ g1) (.cons ((MoveAt.im hmv).mono tt3) (.cons (hpsU.im.mono tt3) .nil))
      · rw [take_snoc ec] at hc2
        rcases List.mem_append.mp hc2 with h | h
        · exact (cov c2 h).mono (fun _ h => h) (fun y h => by simp [h]) fun _ h => h
        · rw [List.mem_singleton.mp h, as0]
          exact .inr (.inl ⟨rfl, _, List.mem_append_right _ (List.mem_singleton.mpr rfl), rfl⟩)
  · obtain ⟨Wt, Lt', xs, zs, y10, y11, su, ⟨eu, tu⟩, ⟨ewu, iwu⟩, ⟨elu, ilu⟩, cau, ⟨lau, cov⟩, lnu, rfl⟩ := pv
    rw [List.take_of_length_le (by omega)] at cov
    have l2 := lau.idle fun c hc e ch hch => by
      rw [only c hc e]
      exact cov ch hch
    exact ⟨_, by omega, ks2, C2, Wt, Lt', xs, zs, _, _, _, _, su, ⟨ewu, iwu⟩, ⟨elu, ilu⟩, cau, ⟨l2, noEnd2⟩, by omega, rfl, rfl, by omega, fun _ => by omega⟩
end
end Slx

set_option Elab.async false
set_option linter.all false
set_option maxRecDepth 100000
set_option maxHeartbeats 4000000
namespace Slx
open PySem PySem.Spec PyProof.Rows L2 Sl
section
variable {P : Program} {w : World} {K : PySem.W.Frag} {mg : Str → Option Value} {base : Heap}
theorem im_wayV {H : Hp} {v : V} {m : Mv} {U : Stand} (h : Im H v (dWay (some (m, U)))) : ∃ a u1 u2, v = .ref a ∧ TupAt H a [.ref u1, .ref u2] ∧ MoveAt H u1 m ∧ StandAt H u2 U := by
  obtain ⟨a, v1, v2, rfl, t, i1, i2⟩ := im_two h
  obtain ⟨u1, rfl, hm⟩ := im_move i1
  obtain ⟨u2, rfl, hs⟩ := im_standAt i2
  exact ⟨a, u1, u2, rfl, t, hm, hs⟩
theorem led_cases {S T : Stand} {C : List Came} {R : List Mv} (l : Led S C T R) (hm : T ∈ C.map (·.1)) : (∃ j, (T, none, j) ∈ C ∧ R = []) ∨ ∃ U m j R', (T, some (m, U), j) ∈ C ∧ Led S C U R' ∧ R = R' ++ [m] ∧ U ∈ C.map (·.1) := by
  cases l with
  | start h => exact .inl ⟨_, h, rfl⟩
  | on h l' =>
    refine .inr ⟨_, _, _, _, h, l', rfl, ?_⟩
    cases l' with
    | start h' => exact List.mem_map.mpr ⟨_, h', rfl⟩
    | on h' _ => exact List.mem_map.mpr ⟨_, h', rfl⟩
theorem ok_leastRow (T : Txt K mg) : DefOk P w K mg base 6 "least_row" ["lane", "ways", "stand"] (spLeast K) := by
  have D_needStand : DefOk P w K mg base 4 "need_stand" ["lane", "ways", "stand"] (spNeedStand K) := ok_needStand T
  have D_searched : DefOk P w K mg base 5 "searched" ["lane", "ways", "stand"] (spSearched P w K) := ok_searched T
  have D_allOut : DefOk P w K mg base 1 "all_out" ["trains"] (spAllOut K) := ok_allOut T
  refine T.f_leastRow.ok sc_leastRow (fun vs H Q E h => by obtain ⟨a, b, c, ln, wy, S, rfl, _⟩ := h; rfl) (fun f cdv A outer s H vs Q E hr h => ?_)
  obtain ⟨a, b, c, ln, wy, S, rfl, hL, hW, hS, ok, few, qn, qs⟩ := h
  refine ⟨_, (pss_cons (ps_expr (pe_def D_needStand (hr.mono (by omega)) (pa_cons (pv 0) (pa_cons (pv 1) (pa_cons (pv 2) pa_nil)))))
      (pss_cons (ps_set (i := 3) sc_leastRow.nd rfl (.inl rfl) (pe_def D_searched (hr.mono (by omega)) (pa_cons (pv 0) (pa_cons (pv 1) (pa_cons (pv 2) pa_nil)))))
      (pss_cons (ps_set (i := 4) sc_leastRow.nd rfl (.inl rfl) (pe_def D_allOut (hr.mono (by omega)) (pa_cons (pe_callB call_len_seq (by rfl) T.b_len (by decide +kernel) (pa_cons (pv 1) pa_nil)) pa_nil)))
      (pss_cons (ps_if (pt_cmp (pc_nnotin (P := P) (w := w) (hu9 hr) (pv 4) (pv 3))) (pss_one (ps_ret pe_non)) pss_nil)
      (pss_cons (ps_set (i := 5) sc_leastRow.nd rfl (.inl rfl) (pe_lst pa_nil))
      (pss_cons (ps_while PassesOwn.never (pt_cmpR (r := rNotN) op_notN1 (pe_nget (P := P) (w := w) (hu9 hr) (pv 3) (pv 4) (fun _ _ => rfl)) pe_non (nomark _)) (pss_cons (ps_asg (pe_nget (P := P) (w := w) (hu9 hr) (pv 3) (pv 4) (fun _ _ => rfl)) (pg_tup rfl (pgs_cons (pg_name (i := 6) sc_leastRow.nd rfl (.inl rfl)) (pgs_cons (pg_name (i := 4) sc_leastRow.nd rfl (.inl rfl)) pgs_nil))))
      (pss_one (ps_expr (pe_bm PySem.F.plainAttrs_list PySem.F.slot_list_append PySem.F.type_list_append mt_append (pv 5) (pa_cons (pv 6) pa_nil))))))
      (pss_one (ps_ret (pe_revL (pv 5)))))))))), ?_⟩
  refine ⟨.ref a, rfl, .ref b, rfl, .ref c, rfl, a, b, c, ln, wy, S, rfl, hL, hW, hS, ok, fun H1 s1 => ?_⟩
  refine ⟨.ref a, rfl, .ref b, rfl, .ref c, rfl, a, b, c, ln, wy, S, rfl, s1.seq hL, s1.seq hW, hS.mono (Ti.of s1), ok, few, fun H2 d ks C s2 hd ca ⟨⟨nd, fewC⟩, res⟩ => ?_⟩
  have o1 := ok.one
  have o6 := ok.most
  have ol := ok.len
  have s12 := s1.trans s2
  refine ⟨.ref b, rfl, b, _, rfl, .inl (s12.seq hW), _, rfl, ⟨by rw [List.length_map]; exact o1, by rw [List.length_map]; exact o6⟩, fun H3 en s3 hen => ?_⟩
  rw [List.length_map, ← ol] at hen
  have s13 := s12.trans s3
  have ca3 := ca.same s3
  refine ⟨.ref en, rfl, .ref d, rfl, d, en, ks, kSt (List.replicate S.length .out), ⟨rfl, rfl⟩, ⟨ca3.1.rd, hen.key⟩, _, rfl, ?_⟩
  rw [ca3.of.mem]
  rcases res with ⟨R, hin, led, row, price⟩ | ⟨nin, price, _⟩
  · rw [decide_eq_true hin]
    refine iteF ⟨Nat.zero_le _, fun ra hra => ?_⟩
    have s4 := same_new (o := .lst []) hra
    have hra0 : H ra = none := s13.free hra
    refine ⟨fun m σ G => ∃ (T : Stand) (R1 R2 : List Mv) (hp : Addr) (xs : List V) (y6 : Option V), Same H3 G ∧ (G ra = some (.lst xs) ∧ ImAll G xs (R2.map dM)) ∧ StandAt G hp T ∧ (T ∈ C.map (·.1) ∧ Led S C T R1) ∧ R = R1 ++ R2.reverse ∧
        σ = [some (.ref a), some (.ref b), some (.ref c), some (.ref d), some (.ref hp), some (.ref ra), y6] ∧ m = R1.length,
      ⟨_, _, R, [], en, [], none, s4, ⟨upd_same, .nil⟩, hen.mono (Ti.of s4), ⟨hin, led⟩, by simp, rfl, rfl⟩, ?_⟩
    rintro m σ G ⟨T, R1, R2, hp, xs, y6, sG, ⟨ex, ix⟩, hT, ⟨hTC, hled⟩, eR, rfl, hm⟩
    have caG := ca3.same sG
    rcases led_cases hled hTC with ⟨j, hj, e1⟩ | ⟨U, mv, j, R', hj, led', e1, hUC⟩
    · obtain ⟨v, ev, iv⟩ := caG.get nd hj
      have ev0 : v = .non := by cases iv; rfl
      subst ev0
      refine ⟨.ref d, rfl, .ref hp, rfl, d, hp, ks, kSt T, ⟨rfl, rfl⟩, ⟨caG.1.rd, hT.key⟩, _, ev, rfl, _, rfl, ?_⟩
      refine iteF' (by simp) ⟨.ref ra, rfl, ra, xs, rfl, .inl (.inl ex), fun p hp0 => ?_⟩
      have s5 := same_new (o := .lst xs.reverse) hp0
      have tot := (s13.trans sG).trans s5
      have eR2 : R = R2.reverse := by rw [eR, e1]; rfl
      have irev : ∀ {xs : List V} {ds : List PyData} {G : Hp}, ImAll G xs ds → ImAll G xs.reverse ds.reverse := fun {xs ds G} i => by
        refine ImAll.of (by simp [i.length]) fun k v dd hv hdd => ?_
        have hl := i.length
        have hk : k < xs.length := by
          have := lt_of_some hv
          simpa using this
        rw [List.getElem?_reverse hk] at hv
        rw [List.getElem?_reverse (by omega)] at hdd
        rw [hl] at hv
        obtain ⟨dd', h1, h2⟩ := i.getV hv
        rw [h1] at hdd
        cases hdd
        exact h2
      refine qs R.length _ p xs.reverse R (List.replicate S.length .out) price tot ((s13.trans sG).free hp0) ⟨upd_same, ?_⟩ row (out_all _) rfl
      rw [eR2, List.map_reverse]
      exact (irev ix).mono (Ti.of s5)
    · obtain ⟨v, ev, iv⟩ := caG.get nd hj
      obtain ⟨va, u1, u2, rfl, tv, hmv, hU⟩ := im_wayV iv
      refine ⟨.ref d, rfl, .ref hp, rfl, d, hp, ks, kSt T, ⟨rfl, rfl⟩, ⟨caG.1.rd, hT.key⟩, _, ev, rfl, _, rfl, ?_⟩
      refine iteT' (by simp) ⟨_, fun σ' H' n => n, ?_⟩
      refine ⟨.ref d, rfl, .ref hp, rfl, d, hp, ks, kSt T, ⟨rfl, rfl⟩, ⟨caG.1.rd, hT.key⟩, _, ev, va, _, rfl, tv.sq, rfl, _, _, rfl, _, _, rfl, rfl, ?_⟩
      have lR : R.length ≤ 200 := by
        have := price_most ok price
        omega
      have lx : xs.length = R2.length := by rw [ix.length, List.length_map]
      have lR2 : R2.length ≤ R.length := by
        rw [eR]
        simp
      refine ⟨.ref ra, rfl, .inl ⟨rfl, _, .inl (.inl ex)⟩, .ref u1, rfl, ra, xs, _, rfl, rfl, ex, Nat.lt_of_le_of_lt (by omega : _ ≤ 200) (by decide), ?_⟩
      have tl := Ti.lst (o := .lst (xs ++ [.ref u1])) ex
      refine ⟨R'.length, by rw [hm, e1]; simp, U, R', R2 ++ [mv], u2, _, _, same_mut sG hra, ⟨upd_same, ?_⟩, hU.mono tl, ⟨hUC, led'⟩, by rw [eR, e1]; simp, rfl, rfl⟩
      rw [List.map_append]
      exact (ix.mono tl).append (.cons ((MoveAt.im hmv).mono tl) .nil)
  · rw [decide_eq_false nin]
    exact iteT (qn price H3 s13)
theorem ok_closed (T : Txt K mg) : DefOk P w K mg base 6 "closed" ["lane", "ways", "stand"] (spClosed K) := by
  have D_needStand : DefOk P w K mg base 4 "need_stand" ["lane", "ways", "stand"] (spNeedStand K) := ok_needStand T
  have D_searched : DefOk P w K mg base 5 "searched" ["lane", "ways", "stand"] (spSearched P w K) := ok_searched T
  have D_allOut : DefOk P w K mg base 1 "all_out" ["trains"] (spAllOut K) := ok_allOut T
  refine T.f_closed.ok sc_closed (fun vs H Q E h => by obtain ⟨a, b, c, ln, wy, S, rfl, _⟩ := h; rfl) (fun f cdv A outer s H vs Q E hr h => ?_)
  obtain ⟨a, b, c, ln, wy, S, rfl, hL, hW, hS, ok, few, qn, qs⟩ := h
  refine ⟨_, (pss_cons (ps_expr (pe_def D_needStand (hr.mono (by omega)) (pa_cons (pv 0) (pa_cons (pv 1) (pa_cons (pv 2) pa_nil)))))
      (pss_cons (ps_set (i := 3) sc_closed.nd rfl (.inl rfl) (pe_def D_searched (hr.mono (by omega)) (pa_cons (pv 0) (pa_cons (pv 1) (pa_cons (pv 2) pa_nil)))))
      (pss_one (ps_ret (pe_ifExp (pt_cmp (pc_nin (P := P) (w := w) (hu9 hr) (pe_def D_allOut (hr.mono (by omega)) (pa_cons (pe_callB call_len_seq (by rfl) T.b_len (by decide +kernel) (pa_cons (pv 1) pa_nil)) pa_nil)) (pv 3))) pe_non (pe_callTy (call_listN (P := P) (w := w) rfl) (by rfl) T.b_list (by decide +kernel) (pa_cons (pv 3) pa_nil))))))), ?_⟩
  refine ⟨.ref a, rfl, .ref b, rfl, .ref c, rfl, a, b, c, ln, wy, S, rfl, hL, hW, hS, ok, fun H1 s1 => ?_⟩
  refine ⟨.ref a, rfl, .ref b, rfl, .ref c, rfl, a, b, c, ln, wy, S, rfl, s1.seq hL, s1.seq hW, hS.mono (Ti.of s1), ok, few, fun H2 d ks C s2 hd ca ⟨⟨nd, fewC⟩, res⟩ => ?_⟩
  have o1 := ok.one
  have o6 := ok.most
  have ol := ok.len
  have s12 := s1.trans s2
  refine ⟨.ref b, rfl, b, _, rfl, .inl (s12.seq hW), _, rfl, ⟨by rw [List.length_map]; exact o1, by rw [List.length_map]; exact o6⟩, fun H3 en s3 hen => ?_⟩
  rw [List.length_map, ← ol] at hen
  have s13 := s12.trans s3
  have ca3 := ca.same s3
  refine ⟨.ref d, rfl, d, en, ks, kSt (List.replicate S.length .out), ⟨rfl, rfl⟩, ⟨ca3.1.rd, hen.key⟩, _, rfl, ?_⟩
  rw [ca3.of.mem]
  rcases res with ⟨R, hin, led, row, price⟩ | ⟨nin, price, hSC, sh⟩
  · rw [decide_eq_true hin]
    exact iteT (qn _ H3 price s13)
  · rw [decide_eq_false nin]
    refine iteF ⟨.ref d, rfl, d, ks, rfl, .inl ca3.1.at_, fun p hp => ?_⟩
    have s4 := same_new (o := .lst (ks.map fun e => V.ref e.2.1)) hp
    exact qs _ p _ (C.map (·.1)) price (s13.trans s4) (s13.free hp) upd_same ((keys_im ca3.of ca3.1.keys).mono (Ti.of s4)) (by rw [List.length_map]; exact fewC) hSC sh
end
end Slx

set_option Elab.async false
set_option linter.all false
set_option maxRecDepth 100000
set_option maxHeartbeats 4000000
namespace Slx
open PySem PySem.Spec PyProof.Rows L2 Sl
/-! ### a yard -/
/-- the fields of a yard -/
def yf (l y s sh : V) : List (Str × V) := [("_lane", l), ("_ways", y), ("_stand", s), ("_shorter", sh)]
theorem yf_lane (l y s sh : V) : (yf l y s sh).lookup ("_lane" : Str) = some l := rfl
theorem yf_ways (l y s sh : V) : (yf l y s sh).lookup ("_ways" : Str) = some y := rfl
theorem yf_stand (l y s sh : V) : (yf l y s sh).lookup ("_stand" : Str) = some s := rfl
theorem yf_shorter (l y s sh : V) : (yf l y s sh).lookup ("_shorter" : Str) = some sh := rfl
theorem yf_put_stand (l y s sh v : V) : putF "_stand" v (yf l y s sh) = yf l y v sh := rfl
theorem yf_put_shorter (l y s sh v : V) : putF "_shorter" v (yf l y s sh) = yf l y s v := rfl
theorem yf_made (l y s sh : V) : putF "_shorter" sh (putF "_stand" s (putF "_ways" y (putF "_lane" l []))) = yf l y s sh := rfl
/-- the lane ahead of the last deed -/
def ShAt (M : List Addr) (H : Hp) (v : V) : Option (List Int) → Prop
  | none => v = .non
  | some ln0 => ∃ l3, v = .ref l3 ∧ H l3 = some (.lst (ln0.map V.int)) ∧ l3 ∉ M
/-- a yard at p, its lane's list at l1; what stands in M may be written -/
def YAt (CY : Addr) (M : List Addr) (H : Hp) (p l1 : Addr) (ln : List Int) (wy : List Bool) (S : Stand) (sh : Option (List Int)) : Prop := ∃ dx l2 c shv, H p = some (.ins CY dx (yf (.ref l1) (.ref l2) (.ref c) shv)) ∧ H l1 = some (.lst (ln.map V.int)) ∧ (H l2 = some (.lst (wy.map fun b => V.str (wS b))) ∧ l2 ∉ M) ∧ StandAt H c S ∧ ShAt M H shv sh
section
variable {P : Program} {w : World} {K : PySem.W.Frag} {mg : Str → Option Value} {base : Heap}
theorem _root_.Sl.DefOk.alias {k : Nat} {x y : Str} {ps : List Str} {sp : Sp} (D : DefOk P w K mg base k x ps sp) (h : mg y = mg x) : DefOk P w K mg base k y ps sp := by
  obtain ⟨f, fd, F, g, kp, b⟩ := D.ex
  exact ⟨f, fd, F, h.trans g, kp, b⟩
abbrev AskY (CY : Addr) (vs : List V) (H : Hp) (R : List Addr → Addr → Addr → List Int → List Bool → Stand → Option (List Int) → Prop) : Prop := ∃ (M : List Addr) (p l1 : Addr) (ln : List Int) (wy : List Bool) (S : Stand) (sh : Option (List Int)), vs = [.ref p] ∧ YAt CY M H p l1 ln wy S sh ∧ R M p l1 ln wy S sh
def spYLane (CY : Addr) : Sp := fun vs H Q _ => AskY CY vs H fun _ _ _ ln _ _ _ => ∀ H' q, Same H H' → H q = none → H' q = some (.lst (ln.map V.int)) → Q (.ref q) H'
theorem ok_yLane (T : Txt K mg) {CY : Addr} (Y : Yrd K mg CY) : MetR P w K mg base CY 1 "lane" (spYLane CY) := by
  refine met_of Y.m_yLane sc_yLane (fun vs H Q E h => by obtain ⟨M, p, l1, ln, wy, S, sh, rfl, _⟩ := h; rfl) (fun f cdv A outer s H vs Q XE hr h => ?_)
  obtain ⟨M, p, l1, ln, wy, S, sh, rfl, ⟨dx, l2, c, shv, hp, h1, ⟨h2, _⟩, hS, _⟩, q⟩ := h
  refine ⟨_, (pss_one (ps_ret (pe_callTy call_list_of (by rfl) T.b_list (by decide +kernel) (pa_cons (pe_fld (pv 0) rfl) pa_nil)))), ?_⟩
  exact ⟨.ref p, rfl, p, CY, dx, _, _, rfl, hp, Y.cl, Y.n_lane, yf_lane _ _ _ _, l1, _, rfl, .inl (.inl (.inl h1)), fun q' hq' => q _ q' (same_new hq') hq' upd_same⟩
def spYWays (CY : Addr) : Sp := fun vs H Q _ => AskY CY vs H fun _ _ _ _ wy _ _ => ∀ H' q, Same H H' → H q = none → H' q = some (.lst (wy.map fun b => V.str (wS b))) → Q (.ref q) H'
theorem ok_yWays (T : Txt K mg) {CY : Addr} (Y : Yrd K mg CY) : MetR P w K mg base CY 1 "ways" (spYWays CY) := by
  refine met_of Y.m_yWays sc_yWays (fun vs H Q E h => by obtain ⟨M, p, l1, ln, wy, S, sh, rfl, _⟩ := h; rfl) (fun f cdv A outer s H vs Q XE hr h => ?_)
  obtain ⟨M, p, l1, ln, wy, S, sh, rfl, ⟨dx, l2, c, shv, hp, h1, ⟨h2, _⟩, hS, _⟩, q⟩ := h
  refine ⟨_, (pss_one (ps_ret (pe_callTy call_list_of (by rfl) T.b_list (by decide +kernel) (pa_cons (pe_fld (pv 0) rfl) pa_nil)))), ?_⟩
  exact ⟨.ref p, rfl, p, CY, dx, _, _, rfl, hp, Y.cl, Y.n_ways, yf_ways _ _ _ _, l2, _, rfl, .inl (.inl (.inl h2)), fun q' hq' => q _ q' (same_new hq') hq' upd_same⟩
def spYStand (CY : Addr) : Sp := fun vs H Q _ => AskY CY vs H fun _ _ _ _ _ S _ => ∀ c, StandAt H c S → Q (.ref c) H
theorem ok_yStand (T : Txt K mg) {CY : Addr} (Y : Yrd K mg CY) : MetR P w K mg base CY 1 "stand" (spYStand CY) := by
  refine met_of Y.m_yStand sc_yStand (fun vs H Q E h => by obtain ⟨M, p, l1, ln, wy, S, sh, rfl, _⟩ := h; rfl) (fun f cdv A outer s H vs Q XE hr h => ?_)
  obtain ⟨M, p, l1, ln, wy, S, sh, rfl, ⟨dx, l2, c, shv, hp, h1, ⟨h2, _⟩, hS, _⟩, q⟩ := h
  refine ⟨_, (pss_one (ps_ret (pe_fld (pv 0) rfl))), ?_⟩
  exact ⟨.ref p, rfl, p, CY, dx, _, _, rfl, hp, Y.cl, Y.n_stand, yf_stand _ _ _ _, q c hS⟩
def spYRow (CY : Addr) : Sp := fun vs H Q _ => AskY CY vs H fun _ _ _ ln wy S _ => OkStand ln wy S ∧ Few ln S ∧ (priceOf ln wy S = none → ∀ H', Same H H' → Q .non H') ∧
  ∀ (n : Nat) (H' : Hp) (p : Addr) (xs : List V) (R : List Mv) (T : Stand), priceOf ln wy S = some n → Same H H' → H p = none → RowAt H' p xs R → rowEnd ln wy S R = some T → allOut T = true → R.length = n → Q (.ref p) H'
theorem ok_yRow (T : Txt K mg) {CY : Addr} (Y : Yrd K mg CY) : MetR P w K mg base CY 7 "row" (spYRow CY) := by
  have D_leastRow : DefOk P w K mg base 6 "least_row" ["lane", "ways", "stand"] (spLeast K) := ok_leastRow T
  refine met_of Y.m_yRow sc_yRow (fun vs H Q E h => by obtain ⟨M, p, l1, ln, wy, S, sh, rfl, _⟩ := h; rfl) (fun f cdv A outer s H vs Q XE hr h => ?_)
  obtain ⟨M, p, l1, ln, wy, S, sh, rfl, ⟨dx, l2, c, shv, hp, h1, ⟨h2, _⟩, hS, _⟩, ok, few, qn, qs⟩ := h
  refine ⟨_, (pss_one (ps_ret (pe_def D_leastRow (hr.mono (by omega)) (pa_cons (pe_fld (pv 0) rfl) (pa_cons (pe_fld (pv 0) rfl) (pa_cons (pe_fld (pv 0) rfl) pa_nil)))))), ?_⟩
  exact ⟨.ref p, rfl, p, CY, dx, _, _, rfl, hp, Y.cl, Y.n_lane, yf_lane _ _ _ _, .ref p, rfl, p, CY, dx, _, _, rfl, hp, Y.cl, Y.n_ways, yf_ways _ _ _ _, .ref p, rfl, p, CY, dx, _, _, rfl, hp, Y.cl, Y.n_stand, yf_stand _ _ _ _, l1, l2, c, ln, wy, S, rfl, .inl (.inl h1), .inl (.inl h2), hS, ok, few, qn, qs⟩
def spYClosed (CY : Addr) : Sp := fun vs H Q _ => AskY CY vs H fun _ _ _ ln wy S _ => OkStand ln wy S ∧ Few ln S ∧ (∀ n H', priceOf ln wy S = some n → Same H H' → Q .non H') ∧
  ∀ (H' : Hp) (p : Addr) (xs : List V) (M : List Stand), priceOf ln wy S = none → Same H H' → H p = none → H' p = some (.lst xs) → ImAll H' xs (M.map dSt) → M.length ≤ 200000 → S ∈ M → Shut ln wy M → Q (.ref p) H'
theorem ok_yClosed (T : Txt K mg) {CY : Addr} (Y : Yrd K mg CY) : MetR P w K mg base CY 7 "closed" (spYClosed CY) := by
  have D_closedSearch : DefOk P w K mg base 6 "closed_search" ["lane", "ways", "stand"] (spClosed K) := (ok_closed T).alias T.al_closedSearch
  refine met_of Y.m_yClosed sc_yClosed (fun vs H Q E h => by obtain ⟨M, p, l1, ln, wy, S, sh, rfl, _⟩ := h; rfl) (fun f cdv A outer s H vs Q XE hr h => ?_)
  obtain ⟨M, p, l1, ln, wy, S, sh, rfl, ⟨dx, l2, c, shv, hp, h1, ⟨h2, _⟩, hS, _⟩, ok, few, qn, qs⟩ := h
  refine ⟨_, (pss_one (ps_ret (pe_def D_closedSearch (hr.mono (by omega)) (pa_cons (pe_fld (pv 0) rfl) (pa_cons (pe_fld (pv 0) rfl) (pa_cons (pe_fld (pv 0) rfl) pa_nil)))))), ?_⟩
  exact ⟨.ref p, rfl, p, CY, dx, _, _, rfl, hp, Y.cl, Y.n_lane, yf_lane _ _ _ _, .ref p, rfl, p, CY, dx, _, _, rfl, hp, Y.cl, Y.n_ways, yf_ways _ _ _ _, .ref p, rfl, p, CY, dx, _, _, rfl, hp, Y.cl, Y.n_stand, yf_stand _ _ _ _, l1, l2, c, ln, wy, S, rfl, .inl (.inl h1), .inl (.inl h2), hS, ok, few, qn, qs⟩
def spYPrice (CY : Addr) : Sp := fun vs H Q _ => AskY CY vs H fun _ _ _ ln wy S _ => OkStand ln wy S ∧ Few ln S ∧ ∀ H', Same H H' → Q (vPrice (priceOf ln wy S)) H'
theorem ok_yPrice (T : Txt K mg) {CY : Addr} (Y : Yrd K mg CY) : MetR P w K mg base CY 8 "price" (spYPrice CY) := by
  have M_yRow : MetR P w K mg base CY 7 "row" (spYRow CY) := ok_yRow T Y
  refine met_of Y.m_yPrice sc_yPrice (fun vs H Q E h => by obtain ⟨M, p, l1, ln, wy, S, sh, rfl, _⟩ := h; rfl) (fun f cdv A outer s H vs Q XE hr h => ?_)
  obtain ⟨M, p, l1, ln, wy, S, sh, rfl, hy, ok, few, q⟩ := h
  obtain ⟨dx, l2, c, shv, hp, _⟩ := id hy
  refine ⟨_, (pss_cons (ps_set (i := 1) sc_yPrice.nd rfl (.inl rfl) (pe_metQ0 Y.cl M_yRow (hr.mono (by omega)) (pv 0)))
      (pss_one (ps_ret (pe_ifExp (pt_cmpR (r := rIsN) op_isN1 (pv 1) pe_non (nomark _)) pe_non (pe_callB call_len_seq (by rfl) T.b_len (by decide +kernel) (pa_cons (pv 1) pa_nil)))))), ?_⟩
  refine ⟨.ref p, rfl, p, dx, _, rfl, hp, rfl, M, p, l1, ln, wy, S, sh, rfl, hy, ok, few, fun e H' s' => ?_, fun n H' r xs R T e s' hr' hR _ _ lR => ?_⟩
  · rw [e] at q
    exact ⟨.non, rfl, rfl, _, rfl, iteT' (by simp) (q H' s')⟩
  · rw [e] at q
    have lx : xs.length = n := by rw [hR.2.length, List.length_map, lR]
    refine ⟨.ref r, rfl, rfl, _, rfl, iteF' (by simp) ⟨.ref r, rfl, r, xs, rfl, .inl (.inl (.inl hR.1)), ?_⟩⟩
    rw [lx]
    exact q H' s'
/-- how many stands are reached -/
def IsCnt (ln : List Int) (wy : List Bool) (S : Stand) (n : Nat) : Prop := ∃ M : List Stand, M.Nodup ∧ (∀ T, T ∈ M ↔ Reach ln wy S T) ∧ M.length = n
theorem IsCnt.one {ln : List Int} {wy : List Bool} {S : Stand} {m n : Nat} (a : IsCnt ln wy S m) (b : IsCnt ln wy S n) : m = n := by
  obtain ⟨M, h1, h2, rfl⟩ := a
  obtain ⟨N, g1, g2, rfl⟩ := b
  exact ((List.perm_ext_iff_of_nodup h1 g1).mpr fun T => (h2 T).trans (g2 T).symm).length_eq
def spYMany (CY : Addr) (K : PySem.W.Frag) : Sp := fun vs H Q _ => ∃ (M : List Addr) (p l1 : Addr) (ln : List Int) (wy : List Bool) (S : Stand) (sh : Option (List Int)) (a : Addr) (ln' : List Int), vs = [.ref p, .ref a] ∧ YAt CY M H p l1 ln wy S sh ∧ LaneAt K H a ln' ∧ OkStand ln' wy S ∧ Few ln' S ∧ ∀ H' n, Same H H' → IsCnt ln' wy S n → Q (.int (n : Nat)) H'
theorem ok_yMany (T : Txt K mg) {CY : Addr} (Y : Yrd K mg CY) : MetR P w K mg base CY 6 "_many_reached" (spYMany CY K) := by
  have D_reached : DefOk P w K mg base 5 "reached" ["lane", "ways", "stand"] (spReached K) := ok_reached T
  refine met_of Y.m_yManyReached sc_yManyReached (fun vs H Q E h => by obtain ⟨M, p, l1, ln, wy, S, sh, a, ln', rfl, _⟩ := h; rfl) (fun f cdv A outer s H vs Q XE hr h => ?_)
  obtain ⟨M, p, l1, ln, wy, S, sh, a, ln', rfl, ⟨dx, l2, c, shv, hp, h1, ⟨h2, _⟩, hS, _⟩, hA, ok, few, q⟩ := h
  refine ⟨_, (pss_one (ps_ret (pe_callB call_len_seq (by rfl) T.b_len (by decide +kernel) (pa_cons (pe_def D_reached (hr.mono (by omega)) (pa_cons (pv 1) (pa_cons (pe_fld (pv 0) rfl) (pa_cons (pe_fld (pv 0) rfl) pa_nil)))) pa_nil)))), ?_⟩
  exact ⟨.ref a, rfl, .ref p, rfl, p, CY, dx, _, _, rfl, hp, Y.cl, Y.n_ways, yf_ways _ _ _ _, .ref p, rfl, p, CY, dx, _, _, rfl, hp, Y.cl, Y.n_stand, yf_stand _ _ _ _, a, l2, c, ln', wy, S, rfl, hA, .inl (.inl h2), hS, ok, few,
    fun H' r xs N s' hr' er ir nd mem => ⟨r, xs, rfl, .inl (.inl (.inl er)), q H' _ s' ⟨N, nd, mem, by rw [ir.length, List.length_map]⟩⟩⟩
/-- what was gained by the last deed -/
def GainedBy (ln : List Int) (wy : List Bool) (S : Stand) (g : Int) : Option (List Int) → Prop
  | none => g = 0
  | some ln0 => ∃ m n, IsCnt ln wy S m ∧ IsCnt ln0 wy S n ∧ g = (m : Int) - (n : Int)
def OkSh (wy : List Bool) (S : Stand) : Option (List Int) → Prop
  | none => True
  | some ln0 => OkStand ln0 wy S ∧ Few ln0 S
def spYGained (CY : Addr) : Sp := fun vs H Q _ => AskY CY vs H fun _ _ _ ln wy S sh => OkStand ln wy S ∧ Few ln S ∧ OkSh wy S sh ∧ ∀ H' g, Same H H' → GainedBy ln wy S g sh → Q (.int g) H'
theorem YAt.same {CY : Addr} {M : List Addr} {H H' : Hp} {p l1 : Addr} {ln : List Int} {wy : List Bool} {S : Stand} {sh : Option (List Int)} (s : Same H H') (h : YAt CY M H p l1 ln wy S sh) : YAt CY M H' p l1 ln wy S sh := by
  obtain ⟨dx, l2, c, shv, hp, h1, ⟨h2, n2⟩, hS, hsh⟩ := h
  refine ⟨dx, l2, c, shv, s _ _ hp, s _ _ h1, ⟨s _ _ h2, n2⟩, hS.mono (Ti.of s), ?_⟩
  cases sh with
  | none => exact hsh
  | some ln0 =>
    obtain ⟨l3, e, h3, n3⟩ := hsh
    exact ⟨l3, e, s _ _ h3, n3⟩
theorem ok_yGained (T : Txt K mg) {CY : Addr} (Y : Yrd K mg CY) : MetR P w K mg base CY 7 "gained" (spYGained CY) := by
  have M_yManyReached : MetR P w K mg base CY 6 "_many_reached" (spYMany CY K) := ok_yMany T Y
  refine met_of Y.m_yGained sc_yGained (fun vs H Q E h => by obtain ⟨M, p, l1, ln, wy, S, sh, rfl, _⟩ := h; rfl) (fun f cdv A outer s H vs Q XE hr h => ?_)
  obtain ⟨M, p, l1, ln, wy, S, sh, rfl, hy, ok, few, oks, q⟩ := h
  obtain ⟨dx, l2, c, shv, hp, h1, ⟨h2, _⟩, hS, hsh⟩ := id hy
  refine ⟨_, (pss_cons (ps_if (pt_cmpR (r := rIsN) op_isN1 (pe_fld (pv 0) rfl) pe_non (nomark _)) (pss_one (ps_ret pe_int)) pss_nil)
      (pss_one (ps_ret (pe_op op_sub (pe_metQ Y.cl M_yManyReached (hr.mono (by omega)) (pv 0) (pa_cons (pe_fld (pv 0) rfl) pa_nil)) (pe_metQ Y.cl M_yManyReached (hr.mono (by omega)) (pv 0) (pa_cons (pe_fld (pv 0) rfl) pa_nil)))))), ?_⟩
  refine ⟨.ref p, rfl, p, CY, dx, _, _, rfl, hp, Y.cl, Y.n_shorter, yf_shorter _ _ _ _, ?_⟩
  cases sh with
  | none =>
    obtain rfl : shv = .non := hsh
    exact ⟨rfl, _, rfl, iteT' (by simp) (q H 0 (Same.refl _) rfl)⟩
  | some ln0 =>
    obtain ⟨l3, rfl, h3, n3⟩ := hsh
    refine ⟨rfl, _, rfl, iteF' (by simp) ?_⟩
    refine ⟨.ref p, rfl, p, dx, _, rfl, hp, rfl, .ref p, rfl, p, CY, dx, _, _, rfl, hp, Y.cl, Y.n_lane, yf_lane _ _ _ _, M, p, l1, ln, wy, S, some ln0, l1, ln, rfl, hy, .inl (.inl h1), ok, few, fun H1 m s1 c1 => ?_⟩
    have hp1 := s1 _ _ hp
    refine ⟨.ref p, rfl, p, dx, _, rfl, hp1, rfl, .ref p, rfl, p, CY, dx, _, _, rfl, hp1, Y.cl, Y.n_shorter, yf_shorter _ _ _ _, M, p, l1, ln, wy, S, some ln0, l3, ln0, rfl, hy.same s1, .inl (.inl (s1 _ _ h3)), oks.1, oks.2, fun H2 n s2 c2 => ?_⟩
    exact ⟨_, _, rfl, rfl, q H2 _ (s1.trans s2) ⟨m, n, c1, c2, rfl⟩⟩
/-! ### its deeds -/
def spYDo (K : PySem.W.Frag) (C : Er → Addr) (CY : Addr) : Sp := fun vs H Q E => ∃ (M : List Addr) (p l1 : Addr) (ln : List Int) (wy : List Bool) (S : Stand) (sh : Option (List Int)) (mv : V), vs = [.ref p, mv] ∧ YAt CY M H p l1 ln wy S sh ∧ OkStand ln wy S ∧
  ((∃ pm m sp, mv = .ref pm ∧ MoveAt H pm m ∧ m.2 < S.length ∧ (m, sp) ∈ choices ln wy S m.2 ∧ ∀ H', Keep [p] H H' → Ti H H' → YAt CY M H' p l1 ln wy (S.set m.2 sp) none → Q .non H') ∨
   (NoMv K H ln wy S mv ∧ ∀ H', Same H H' → E (.ref (C .move)) none H'))
theorem ok_yDo (T : Txt K mg) {L : Addr} {C : Er → Addr} (E : Errs K mg L C) {CY : Addr} (Y : Yrd K mg CY) : MetR P w K mg base CY 6 "do" (spYDo K C CY) := by
  have D_behind : DefR P w K mg base 5 "behind" (spBehindR K C) := (ok_behindR T E).r
  refine met_of Y.m_yDo sc_yDo (fun vs H Q E h => by obtain ⟨M, p, l1, ln, wy, S, sh, mv, rfl, _⟩ := h; rfl) (fun f cdv A outer s H vs Q XE hr h => ?_)
  obtain ⟨M, p, l1, ln, wy, S, sh, mv, rfl, hy, ok, h⟩ := h
  obtain ⟨dx, l2, c, shv, hp, h1, ⟨h2, n2⟩, hS, hsh⟩ := id hy
  refine ⟨_, (pss_cons (ps_fld (pv 0) (pe_rr D_behind (L2N.takes_of rfl rfl rfl rfl) (hr.mono (by omega)) (pa_cons (pe_fld (pv 0) rfl) (pa_cons (pe_fld (pv 0) rfl) (pa_cons (pe_fld (pv 0) rfl) (pa_cons (pv 1) pa_nil))))) rfl)
      (pss_one (ps_fld (pv 0) pe_non rfl))), ?_⟩
  refine ⟨.ref p, rfl, p, CY, dx, _, _, rfl, hp, Y.cl, Y.n_lane, yf_lane _ _ _ _, .ref p, rfl, p, CY, dx, _, _, rfl, hp, Y.cl, Y.n_ways, yf_ways _ _ _ _, .ref p, rfl, p, CY, dx, _, _, rfl, hp, Y.cl, Y.n_stand, yf_stand _ _ _ _, mv, rfl, l1, l2, c, mv, ln, wy, S, rfl, .inl (.inl h1), .inl (.inl h2), hS, ok, ?_⟩
  rcases h with ⟨pm, m, sp, rfl, hm, hk, hch, q⟩ | ⟨no, q⟩
  · refine .inl ⟨pm, m, sp, rfl, hm, hk, hch, fun H1 c1 s1 hS1 => ?_⟩
    have hp1 := s1 _ _ hp
    refine ⟨.ref p, rfl, p, CY, dx, _, rfl, hp1, Y.cl, Y.n_stand, by show 4 < 1000; decide, ?_⟩
    rw [yf_put_stand]
    refine ⟨.ref p, rfl, p, CY, dx, _, rfl, upd_same, Y.cl, Y.n_shorter, by show 4 < 1000; decide, ?_⟩
    rw [yf_put_shorter, upd_upd]
    have np1 : l1 ≠ p := fun z => by rw [z, hp] at h1; cases h1
    have np2 : l2 ≠ p := fun z => by rw [z, hp] at h2; cases h2
    have ti : Ti H (upd H1 p (.ins CY dx (yf (.ref l1) (.ref l2) (.ref c1) .non))) := fun x zs hz => by
      obtain ⟨o, e1, e2⟩ := Ti.of s1 _ _ hz
      exact ⟨o, by rw [upd_ne (fun z => by rw [z, hp1] at e1; cases e1)]; exact e1, e2⟩
    have ti1 : Ti H1 (upd H1 p (.ins CY dx (yf (.ref l1) (.ref l2) (.ref c1) .non))) := fun x zs ⟨o, e1, e2⟩ => ⟨o, by rw [upd_ne (fun z => by rw [z, hp1] at e1; cases e1)]; exact e1, e2⟩
    exact q _ ((Keep.of s1).upd (List.mem_singleton.mpr rfl)) ti ⟨dx, l2, c1, .non, upd_same, by rw [upd_ne np1]; exact s1 _ _ h1, ⟨by rw [upd_ne np2]; exact s1 _ _ h2, n2⟩, hS1.mono ti1, rfl⟩
  · exact .inr ⟨no, q⟩
def spYLonger (K : PySem.W.Frag) (C : Er → Addr) (CY : Addr) : Sp := fun vs H Q E => ∃ (M : List Addr) (p l1 : Addr) (ln : List Int) (wy : List Bool) (S : Stand) (sh : Option (List Int)) (x : V), vs = [.ref p, x] ∧ YAt CY M H p l1 ln wy S sh ∧ OkLane ln ∧ (l1 ∈ M ∧ ∀ a ∈ M, H a ≠ none) ∧
  ((∃ k : Nat, x = .int (k : Nat) ∧ k < ln.length ∧ ln.getD k 0 ≠ 4 ∧ ∀ H', Keep [p, l1] H H' → Ti H H' → YAt CY M H' p l1 (ln.set k (ln.getD k 0 + 1)) wy S (some ln) → Q .non H') ∨
   (∃ k : Nat, x = .int (k : Nat) ∧ k < ln.length ∧ ln.getD k 0 = 4 ∧ ∀ H', Same H H' → E (.ref (C .place)) none H') ∨
   (∃ Tn, TyB K H x Tn ∧ isNum x 0 ((ln.length : Int) - 1) = false ∧ ∀ H', Same H H' → E (.ref (C .place)) none H'))
theorem ok_yLonger (T : Txt K mg) {L : Addr} {C : Er → Addr} (E : Errs K mg L C) {CY : Addr} (Y : Yrd K mg CY) : MetR P w K mg base CY 2 "longer" (spYLonger K C CY) := by
  have D_isNumber : DefOk P w K mg base 1 "is_number" ["thing", "least", "most"] (spIsNumber K) := ok_isNumber T
  refine met_of Y.m_yLonger sc_yLonger (fun vs H Q E h => by obtain ⟨M, p, l1, ln, wy, S, sh, x, rfl, _⟩ := h; rfl) (fun f cdv A outer s H vs Q XE hr h => ?_)
  obtain ⟨M, p, l1, ln, wy, S, sh, x, rfl, hy, ok, ⟨h1M, hM⟩, h⟩ := h
  obtain ⟨dx, l2, c, shv, hp, h1, ⟨h2, n2⟩, hS, hsh⟩ := id hy
  have lm : (ln.map V.int).length = ln.length := List.length_map ..
  refine ⟨_, (pss_cons (ps_if (pt_not (pt_val (pe_def D_isNumber (hr.mono (by omega)) (pa_cons (pv 1) (pa_cons pe_int (pa_cons (pe_op op_sub (pe_callB call_len_seq (by rfl) T.b_len (by decide +kernel) (pa_cons (pe_fld (pv 0) rfl) pa_nil)) pe_int) pa_nil)))))) (pss_one (ps_err (E.at_ .place) rfl (L2N.takes_of rfl rfl rfl rfl))) pss_nil)
      (pss_cons (ps_if (pt_cmpR op_eq (pe_ix (r := rIxL K) ix_list (pe_fld (pv 0) rfl) (pv 1) (fun _ _ => rfl)) (pe_cint T.c_MOST_HELD) (nomark _)) (pss_one (ps_err (E.at_ .place) rfl (L2N.takes_of rfl rfl rfl rfl))) pss_nil)
      (pss_cons (ps_fld (pv 0) (pe_callTy call_list_of (by rfl) T.b_list (by decide +kernel) (pa_cons (pe_fld (pv 0) rfl) pa_nil)) rfl)
      (pss_one (ps_augS (pe_fld (pv 0) rfl) (pv 1) get_list pe_int ip_add set_list))))), ?_⟩
  have np1 : l1 ≠ p := fun z => by rw [z, hp] at h1; cases h1
  have np2 : l2 ≠ p := fun z => by rw [z, hp] at h2; cases h2
  have num : ∀ k : Nat, k < ln.length → isNum (.int (k : Int)) 0 ((ln.length : Int) - 1) = true := fun k hk => by
    show (decide ((0 : Int) ≤ k) && decide ((k : Int) ≤ ln.length - 1)) = true
    rw [decide_eq_true (by omega), decide_eq_true (by omega)]
    rfl
  refine ⟨x, rfl, .ref p, rfl, p, CY, dx, _, _, rfl, hp, Y.cl, Y.n_lane, yf_lane _ _ _ _, l1, _, rfl, .inl (.inl (.inl h1)), _, 1, rfl, rfl, ?_⟩
  rw [lm]
  rcases h with ⟨k, rfl, hk, h4, q⟩ | ⟨k, rfl, hk, h4, q⟩ | ⟨Tn, ty, e, q⟩
  · refine ⟨.int (k : Nat), "int", 0, (ln.length : Int) - 1, rfl, .int _, ?_⟩
    rw [num k hk]
    refine ⟨_, rfl, iteF' rfl ?_⟩
    refine ⟨.ref p, rfl, p, CY, dx, _, _, rfl, hp, Y.cl, Y.n_lane, yf_lane _ _ _ _, .int (k : Nat), rfl, l1, _, (k : Int), _, rfl, rfl, .inl (.inl h1), lane_at hk, rfl, _, rfl, iteF' (decide_eq_false fun z => h4 (V.int.inj z)) ?_⟩
    refine ⟨.ref p, rfl, p, CY, dx, _, _, rfl, hp, Y.cl, Y.n_lane, yf_lane _ _ _ _, l1, _, rfl, .inl (.inl (.inl h1)), fun l3 hl3 => ?_⟩
    have s1 := same_new (o := .lst (ln.map V.int)) hl3
    have e3 : (upd H l3 (.lst (ln.map V.int))) l3 = some (.lst (ln.map V.int)) := upd_same
    generalize upd H l3 (.lst (ln.map V.int)) = H1 at s1 e3
    have hp1 := s1 _ _ hp
    have h11 := s1 _ _ h1
    have n31 : l3 ≠ l1 := fun z => by rw [z, h1] at hl3; cases hl3
    have n3p : l3 ≠ p := fun z => by rw [z, hp] at hl3; cases hl3
    refine ⟨.ref p, rfl, p, CY, dx, _, rfl, hp1, Y.cl, Y.n_shorter, by show 4 < 1000; decide, ?_⟩
    rw [yf_put_shorter]
    have h12 : upd H1 p (.ins CY dx (yf (.ref l1) (.ref l2) (.ref c) (.ref l3))) l1 = some (.lst (ln.map V.int)) := by rw [upd_ne np1]; exact h11
    have eg : (ln.map V.int)[k]? = some (.int (ln.getD k 0)) := by
      rw [List.getElem?_map, getD_lt (d := 0) hk]
      rfl
    refine ⟨.ref p, rfl, p, CY, dx, _, _, rfl, upd_same, Y.cl, Y.n_lane, yf_lane _ _ _ _, .int (k : Nat), rfl, l1, _, k, _, rfl, rfl, .inl (.inl h12), eg, _, 1, rfl, rfl, l1, _, (k : Int), k, rfl, rfl, h12, ?_, ?_⟩
    · unfold ixN
      rw [if_pos (by omega), if_pos (by rw [lm]; omega)]
      simp
    have es : (ln.map V.int).set k (.int (ln.getD k 0 + 1)) = (ln.set k (ln.getD k 0 + 1)).map V.int := by rw [List.map_set]
    rw [es]
    have tiA : Ti H1 (upd H1 p (.ins CY dx (yf (.ref l1) (.ref l2) (.ref c) (.ref l3)))) := fun y zs ⟨o, e1, e2⟩ => ⟨o, by rw [upd_ne (fun z => by rw [z, hp1] at e1; cases e1)]; exact e1, e2⟩
    have tiB := Ti.lst (o := .lst ((ln.set k (ln.getD k 0 + 1)).map V.int)) h12
    have ti := ((Ti.of s1).trans tiA).trans tiB
    have n3M : l3 ∉ M := fun hm => hM l3 hm hl3
    have n21 : l2 ≠ l1 := fun z => n2 (by rw [z]; exact h1M)
    refine q _ (((Keep.of s1).upd (by simp)).upd (by simp)) ti ⟨dx, l2, c, .ref l3, by rw [upd_ne np1.symm]; exact upd_same, upd_same, ⟨?_, n2⟩, hS.mono ti, l3, rfl, by rw [upd_ne n31, upd_ne n3p]; exact e3, n3M⟩
    rw [upd_ne n21, upd_ne np2]
    exact s1 _ _ h2
  · refine ⟨.int (k : Nat), "int", 0, (ln.length : Int) - 1, rfl, .int _, ?_⟩
    rw [num k hk]
    refine ⟨_, rfl, iteF' rfl ?_⟩
    exact ⟨.ref p, rfl, p, CY, dx, _, _, rfl, hp, Y.cl, Y.n_lane, yf_lane _ _ _ _, .int (k : Nat), rfl, l1, _, (k : Int), _, rfl, rfl, .inl (.inl h1), lane_at hk, rfl, _, rfl, iteT' (decide_eq_true (congrArg V.int h4)) (q _ (Same.refl _))⟩
  · refine ⟨x, Tn, 0, (ln.length : Int) - 1, rfl, ty, ?_⟩
    rw [e]
    exact ⟨_, rfl, iteT' rfl (q _ (Same.refl _))⟩
end
end Slx

set_option Elab.async false
set_option linter.all false
set_option maxRecDepth 100000
set_option maxHeartbeats 4000000
namespace Slx
open PySem PySem.Spec PyProof.Rows L2 Sl
section
variable {P : Program} {w : World} {K : PySem.W.Frag} {mg : Str → Option Value} {base : Heap}
/-! ### the law's own sum, and where it is stuck -/
def leftTo (ln : List Int) (wy : List Bool) (S : Stand) : Nat → Int
  | 0 => 0
  | n + 1 => leftTo ln wy S n + stepsLeft ln (wy.getD n true) (S.getD n .out)
theorem leftTo_cons (ln : List Int) (w : Bool) (wy : List Bool) (s : Spot) (S : Stand) : ∀ n, leftTo ln (w :: wy) (s :: S) (n + 1) = stepsLeft ln w s + leftTo ln wy S n
  | 0 => by simp [leftTo]
  | n + 1 => by
    rw [leftTo, leftTo_cons ln w wy s S n]
    simp only [leftTo, List.getD_cons_succ]
    omega
theorem leftTo_all (ln : List Int) : ∀ (wy : List Bool) (S : Stand), S.length = wy.length → leftTo ln wy S S.length = leftOf ln wy S
  | [], [], _ => rfl
  | [], _ :: _, h => by simp at h
  | _ :: _, [], h => by simp at h
  | w :: wy, s :: S, h => by
    rw [List.length_cons, leftTo_cons, leftTo_all ln wy S (by simpa using h)]
    rfl
def spLLeft (K : PySem.W.Frag) : Sp := fun vs H Q _ => ∃ a b c ln wy S, vs = [.ref a, .ref b, .ref c] ∧ LaneAt K H a ln ∧ WaysAt K H b wy ∧ StandAt H c S ∧ OkStand ln wy S ∧ ∀ H', Same H H' → Q (.int (leftOf ln wy S)) H'
theorem ok_lLeft (T : Txt K mg) : DefOk P w K mg base 1 "_law_left" ["_law_lane", "_law_ways", "_law_stand"] (spLLeft K) := by
  refine T.f_lLeft.ok sc_lLeft (fun vs H Q E h => by obtain ⟨a, b, c, ln, wy, S, rfl, _⟩ := h; rfl) (fun f cdv A outer s H vs Q E hr h => ?_)
  obtain ⟨a, b, c, ln, wy, S, rfl, hL, hW, ⟨xs, ec, im⟩, ok, q⟩ := h
  have zl := StandAt.len im
  have z6 := stand_size ok im
  refine ⟨_, (pss_cons (ps_set (i := 3) sc_lLeft.nd rfl (.inl rfl) pe_int)
      (pss_cons (ps_for PassesOwn.never rfl (pi_range1 (by rfl) T.b_range (pa_cons (pe_callB call_len_seq (by rfl) T.b_len (by decide +kernel) (pa_cons (pv 2) pa_nil)) pa_nil)) (pg_name (i := 4) sc_lLeft.nd rfl (.inl rfl)) (pss_one (ps_if (pt_cmpR op_ne (pe_ix (r := rIxT K) ix_tup (pe_ix (r := rIxT K) ix_tup (pv 2) (pv 4) (fun _ _ => rfl)) pe_int (fun _ _ => rfl)) pe_str (nomark _)) (pss_one (ps_set (i := 3) sc_lLeft.nd rfl (.inl rfl) (pe_op op_add (pv 3) (pe_ix (r := rIxL K) ix_list (pe_lst (pa_cons (pe_op op_add (pe_ix (r := rIxT K) ix_tup (pe_ix (r := rIxT K) ix_tup (pv 2) (pv 4) (fun _ _ => rfl)) pe_int (fun _ _ => rfl)) pe_int) (pa_cons (pe_op op_sub (pe_callB call_len_seq (by rfl) T.b_len (by decide +kernel) (pa_cons (pv 0) pa_nil)) (pe_ix (r := rIxT K) ix_tup (pe_ix (r := rIxT K) ix_tup (pv 2) (pv 4) (fun _ _ => rfl)) pe_int (fun _ _ => rfl))) pa_nil))) (pe_callTy call_int1 (by rfl) T.b_int (by decide +kernel) (pa_cons (pe_cmpR op_eq (pe_ix (r := rIxL K) ix_list (pv 1) (pv 4) (fun _ _ => rfl)) pe_str (nomark _)) pa_nil)) (fun _ _ => rfl))))) pss_nil)))
      (pss_one (ps_ret (pv 3))))), ?_⟩
  refine ⟨.ref c, rfl, c, xs, rfl, .inr ec.sq, _, rfl, by omega, by omega, ?_⟩
  refine for_it (walk_range (lo := 0) (n := (xs.length : Int).toNat)) (fun i σ H1 => Same H H1 ∧ ∃ y4, σ = [some (.ref a), some (.ref b), some (.ref c), some (.int (leftTo ln wy S i)), y4]) ⟨Same.refl _, none, rfl⟩ (fun _ _ _ _ _ => trivial) (fun i x σ H1 H2 hi p y => ?_) (fun σ H1 p => ?_)
  · obtain ⟨s1, y4, rfl⟩ := p
    obtain ⟨rfl, rfl⟩ := y
    have hi2 : i < S.length := by omega
    have es : S[i]? = some (S.getD i .out) := getD_lt hi2
    have ew : wy[i]? = some (wy.getD i true) := getD_lt (by rw [← ok.len]; exact hi2)
    have ewV : (wy.map fun b => V.str (wS b))[i]? = some (.str (wS (wy.getD i true))) := by rw [List.getElem?_map, ew]; rfl
    obtain ⟨p, ep, hp⟩ := stand_get im es
    have hp1 := Ti.of s1 _ _ hp
    have ec1 := Ti.of s1 _ _ ec
    have e0 : (0 : Int) + (i : Int) = (i : Int) := by omega
    have at_ : ∀ {v : V}, xs[i]? = some v → atI xs (0 + (i : Int)) = some v := fun h => by rw [e0]; exact atI_nat h
    have atw : ∀ {v : V}, (wy.map fun b => V.str (wS b))[i]? = some v → atI (wy.map fun b => V.str (wS b)) (0 + (i : Int)) = some v := fun h => by rw [e0]; exact atI_nat h
    show tIfS _ _ _ _ _ _
    generalize hsp : S.getD i .out = sp at es hp hp1
    generalize hwr : wy.getD i true = r at ew ewV
    have step : ∀ m : Nat, (sp = .lane m ∨ sp = .side m) → ∀ wd : Str, vS sp = [.str wd, .int m] → leftTo ln wy S (i + 1) = leftTo ln wy S i + (if r = true then (ln.length : Int) - m else (m : Int) + 1) := fun m h wd _ => by
      show leftTo ln wy S i + stepsLeft ln (wy.getD i true) (S.getD i .out) = _
      rw [hsp, hwr]
      rcases h with h | h <;> subst h <;> rfl
    cases sp with
    | out =>
      refine ⟨.ref c, rfl, .int (0 + (i : Int)), rfl, c, xs, _, _, rfl, rfl, ec1.sq, at_ ep, p, _, 0, _, rfl, rfl, hp1.sq, at0, ?_⟩
      refine ⟨rfl, _, rfl, iteNS rfl ⟨s1, some (.int (0 + (i : Int))), ?_⟩⟩
      have e : leftTo ln wy S (i + 1) = leftTo ln wy S i := by
        show leftTo ln wy S i + stepsLeft ln (wy.getD i true) (S.getD i .out) = _
        rw [hsp]
        simp [stepsLeft]
      rw [e]
      rfl
    | lane m =>
      have e := step m (.inl rfl) "lane" rfl
      refine ⟨.ref c, rfl, .int (0 + (i : Int)), rfl, c, xs, _, _, rfl, rfl, ec1.sq, at_ ep, p, _, 0, _, rfl, rfl, hp1.sq, at0, ?_⟩
      refine ⟨rfl, _, rfl, iteT' (by decide) ?_⟩
      refine ⟨.int (leftTo ln wy S i), rfl, .ref c, rfl, .int (0 + (i : Int)), rfl, c, xs, _, _, rfl, rfl, ec1.sq, at_ ep, p, _, 1, _, rfl, rfl, hp1.sq, at1, _, _, rfl, rfl, ?_⟩
      refine ⟨.ref a, rfl, a, _, rfl, .inl (s1.seq hL), .ref c, rfl, .int (0 + (i : Int)), rfl, c, xs, _, _, rfl, rfl, ec1.sq, at_ ep, p, _, 1, _, rfl, rfl, hp1.sq, at1, _, _, rfl, rfl, two_size, fun t ht => ?_⟩
      have st := same_new (o := .lst [.int ((m : Int) + 1), .int (((ln.map V.int).length : Int) - m)]) ht
      refine ⟨.ref b, rfl, .int (0 + (i : Int)), rfl, b, _, _, _, rfl, rfl, st.seq (s1.seq hW), atw ewV, rfl, .inr ⟨_, rfl, t, _, _, .int (if r = true then (ln.length : Int) - m else (m : Int) + 1), rfl, rfl, .inl (.inl upd_same), ?_, _, _, rfl, rfl, s1.trans st, some (.int (0 + (i : Int))), ?_⟩⟩
      · rw [way_right, List.length_map]
        cases r
        · exact at0
        · exact at1
      · rw [e]
        rfl
    | side m =>
      have e := step m (.inr rfl) "side" rfl
      refine ⟨.ref c, rfl, .int (0 + (i : Int)), rfl, c, xs, _, _, rfl, rfl, ec1.sq, at_ ep, p, _, 0, _, rfl, rfl, hp1.sq, at0, ?_⟩
      refine ⟨rfl, _, rfl, iteT' (by decide) ?_⟩
      refine ⟨.int (leftTo ln wy S i), rfl, .ref c, rfl, .int (0 + (i : Int)), rfl, c, xs, _, _, rfl, rfl, ec1.sq, at_ ep, p, _, 1, _, rfl, rfl, hp1.sq, at1, _, _, rfl, rfl, ?_⟩
      refine ⟨.ref a, rfl, a, _, rfl, .inl (s1.seq hL), .ref c, rfl, .int (0 + (i : Int)), rfl, c, xs, _, _, rfl, rfl, ec1.sq, at_ ep, p, _, 1, _, rfl, rfl, hp1.sq, at1, _, _, rfl, rfl, two_size, fun t ht => ?_⟩
      have st := same_new (o := .lst [.int ((m : Int) + 1), .int (((ln.map V.int).length : Int) - m)]) ht
      refine ⟨.ref b, rfl, .int (0 + (i : Int)), rfl, b, _, _, _, rfl, rfl, st.seq (s1.seq hW), atw ewV, rfl, .inr ⟨_, rfl, t, _, _, .int (if r = true then (ln.length : Int) - m else (m : Int) + 1), rfl, rfl, .inl (.inl upd_same), ?_, _, _, rfl, rfl, s1.trans st, some (.int (0 + (i : Int))), ?_⟩⟩
      · rw [way_right, List.length_map]
        cases r
        · exact at0
        · exact at1
      · rw [e]
        rfl
  · obtain ⟨s1, y4, rfl⟩ := p
    refine ⟨_, rfl, ?_⟩
    have e : (xs.length : Int).toNat = S.length := by omega
    rw [e, leftTo_all ln wy S ok.len]
    exact q _ s1
end
end Slx

set_option Elab.async false
set_option linter.all false
set_option maxRecDepth 100000
set_option maxHeartbeats 4000000
namespace Slx
open PySem PySem.Spec PyProof.Rows L2 Sl
theorem eqv_st2 (S T : Stand) : PyData.eqv (dSt S) (dSt T) = decide (S = T) := by
  rw [← kSt_data, ← kSt_data, eqv_key]
  by_cases h : S = T
  · subst h
    rw [NestedKey.beq_self, decide_eq_true rfl]
  · rw [decide_eq_false h]
    cases e : NestedKey.beq (kSt S) (kSt T) with
    | false => rfl
    | true => exact absurd (kSt_inj (NestedKey.eq_of_beq _ _ e)) h
/-- all but what stands at d stays -/
def But (d : Addr) (H H' : Hp) : Prop := ∀ a o, a ≠ d → H a = some o → H' a = some o
theorem But.refl (d : Addr) (H : Hp) : But d H H := fun _ _ _ h => h
theorem But.trans {d : Addr} {H H1 H2 : Hp} (a : But d H H1) (b : But d H1 H2) : But d H H2 := fun x o n h => b x o n (a x o n h)
theorem But.of {d : Addr} {H H' : Hp} (s : Same H H') : But d H H' := fun a o _ h => s a o h
theorem But.at {d : Addr} {H : Hp} {o : HO} : But d H (upd H d o) := fun a u n h => by rw [upd_ne n]; exact h
theorem But.fresh {d a : Addr} {H H' : Hp} {o : HO} (b : But d H H') (h : H a = none) : But d H (upd H' a o) := fun x u n hx => by
  rw [upd_ne (ne_of_none hx h)]
  exact b x u n hx
theorem But.ti {P : Program} {w : World} {d : Addr} {H H' : Hp} {ks : List Ent} (b : But d H H') (dn : DN P w H d ks) : Ti H H' := fun a xs ⟨o, e, n⟩ => ⟨o, b a _ (fun z => by subst z; rw [dn.at_] at e; cases e) e, n⟩
/-- what is new stays new, so what was not there is not told by the first heap -/
theorem But.free {d a : Addr} {H H' : Hp} (b : But d H H') (n : a ≠ d) (h : H' a = none) : H a = none := by
  cases e : H a with
  | none => rfl
  | some o => rw [b a o n e] at h; cases h
/-- the dict of prices so far: each stand with its price, those behind it among them -/
structure KnownAt (P : Program) (w : World) (ln : List Int) (wy : List Bool) (S0 : Stand) (H : Hp) (d : Addr) (ks : List Ent) (L : List Stand) : Prop where
  dn : DN P w H d ks
  of : Of ks L
  nodup : L.Nodup
  reach : ∀ T ∈ L, Reach ln wy S0 T
  next : ∀ T ∈ L, ∀ U ∈ behinds ln wy T, U ∈ L
  val : ∀ (i : Nat) (e : Ent) (T : Stand), ks[i]? = some e → L[i]? = some T → e.2.2 = vPrice (priceOf ln wy T)
section
variable {P : Program} {w : World} {ln : List Int} {wy : List Bool} {S0 : Stand} {H : Hp} {d : Addr} {ks : List Ent} {L : List Stand}
theorem KnownAt.same {H' : Hp} (k : KnownAt P w ln wy S0 H d ks L) (s : Same H H') : KnownAt P w ln wy S0 H' d ks L := ⟨k.dn.same s, k.of, k.nodup, k.reach, k.next, k.val⟩
theorem KnownAt.lst {a : Addr} {xs ys : List V} (k : KnownAt P w ln wy S0 H d ks L) (h : H a = some (.lst xs)) : KnownAt P w ln wy S0 (upd H a (.lst ys)) d ks L := ⟨k.dn.lst h, k.of, k.nodup, k.reach, k.next, k.val⟩
theorem KnownAt.few (k : KnownAt P w ln wy S0 H d ks L) (o : OkStand ln wy S0) (few : Few ln S0) : L.length ≤ 200000 :=
  Nat.le_trans (stands_few k.nodup fun T hT => ⟨((k.reach T hT).ok o).2, ((k.reach T hT).ok o).1.spot⟩) few
theorem KnownAt.get (k : KnownAt P w ln wy S0 H d ks L) {T : Stand} (h : T ∈ L) : valN ks (kSt T) = some (vPrice (priceOf ln wy T)) := by
  obtain ⟨i, hi⟩ := List.mem_iff_getElem?.mp h
  have hk : i < ks.length := by rw [k.of.len]; exact lt_of_some hi
  have nk : (ks.map (·.1)).Nodup := by
    rw [k.of]
    exact List.pairwise_map.mpr (k.nodup.imp fun h e => h (kSt_inj e))
  have z := val_at nk (List.getElem?_eq_getElem hk)
  have e1 : (ks[i]).1 = kSt T := by
    have := congrArg (·[i]?) k.of
    simp only [List.getElem?_map, List.getElem?_eq_getElem hk, hi, Option.map_some] at this
    exact Option.some.inj this
  rw [e1, k.val i _ T (List.getElem?_eq_getElem hk) hi] at z
  exact z
theorem KnownAt.put (k : KnownAt P w ln wy S0 H d ks L) {T : Stand} (n : T ∉ L) (r : Reach ln wy S0 T) (nx : ∀ U ∈ behinds ln wy T, U ∈ L) {b : Addr} (hb : KeyAt H b (kSt T)) :
    KnownAt P w ln wy S0 (upd H d (dNO P w d (putN ks (kSt T) b (vPrice (priceOf ln wy T))))) d (putN ks (kSt T) b (vPrice (priceOf ln wy T))) (L ++ [T]) := by
  have new : putN ks (kSt T) b (vPrice (priceOf ln wy T)) = ks ++ [(kSt T, b, vPrice (priceOf ln wy T))] := put_new (by rw [k.of.mem, decide_eq_false n])
  refine ⟨k.dn.put _ hb, k.of.put n b _, List.nodup_append.mpr ⟨k.nodup, by simp, fun a ha b hb e => n (by rw [List.mem_singleton.mp hb] at e; exact e ▸ ha)⟩, fun U hU => ?_, fun U hU V hV => ?_, fun i e U h1 h2 => ?_⟩
  · rcases List.mem_append.mp hU with h | h
    · exact k.reach U h
    · rw [List.mem_singleton.mp h]; exact r
  · rcases List.mem_append.mp hU with h | h
    · simp [k.next U h V hV]
    · rw [List.mem_singleton.mp h] at hV
      simp [nx V hV]
  · rw [new] at h1
    have l := k.of.len
    by_cases h : i < ks.length
    · rw [List.getElem?_append_left h] at h1
      rw [List.getElem?_append_left (by omega)] at h2
      exact k.val i e U h1 h2
    · have hi : i = ks.length := by
        have := lt_of_some h1
        simp at this
        omega
      subst hi
      simp at h1
      rw [l] at h2
      simp at h2
      subst h1 h2
      rfl
end
theorem TracksAt.but {P : Program} {w : World} {H H' : Hp} {t d : Addr} {ln : List Int} {wy : List Bool} {ks : List Ent} (b : But d H H') (dn : DN P w H d ks) (no : ∀ ys, H t = some (.lst ys) → V.ref d ∉ ys) (h : TracksAt P w H t ln wy) : TracksAt P w H' t ln wy ∧ ∀ ys, H' t = some (.lst ys) → V.ref d ∉ ys := by
  obtain ⟨ys, e, l, f⟩ := h
  have nt : t ≠ d := fun z => by rw [z, dn.at_] at e; cases e
  refine ⟨⟨ys, b _ _ nt e, l, fun k y r h1 h2 => ?_⟩, fun zs hz => ?_⟩
  · obtain ⟨d', e', ks', dn', f'⟩ := f k y r h1 h2
    have nd : d' ≠ d := fun z => no ys e (by rw [← z, ← e']; exact List.mem_of_getElem? h1)
    refine ⟨d', e', ks', ⟨b _ _ nd dn'.at_, fun x hx => (dn'.keys x hx).mono (b.ti dn)⟩, fun sp ok => ?_⟩
    obtain ⟨v, e2, l2, xs, e3, e4, im⟩ := f' sp ok
    exact ⟨v, e2, l2, xs, e3, b _ _ (fun z => by rw [z, dn.at_] at e4; cases e4) e4, im.mono (b.ti dn)⟩
  · rw [b _ _ nt e] at hz
    cases hz
    exact no ys e
/-- those that have a price -/
def costs (l : List (Option Nat)) : List Nat := l.filterMap id
theorem costs_mem {l : List (Option Nat)} {n : Nat} : n ∈ costs l ↔ some n ∈ l := by
  unfold costs
  rw [List.mem_filterMap]
  exact ⟨fun ⟨a, h1, h2⟩ => by rw [← h2]; exact h1, fun h => ⟨_, h, rfl⟩⟩
theorem costs_least {l : List (Option Nat)} {m : Int} (h1 : m ∈ (costs l).map (fun n : Nat => (n : Int))) (h2 : ∀ k ∈ (costs l).map (fun n : Nat => (n : Int)), m ≤ k) : ∃ n : Nat, m = n ∧ least l = some n := by
  obtain ⟨n, hn, rfl⟩ := List.mem_map.mp h1
  refine ⟨n, rfl, least_some.mpr ⟨costs_mem.mp hn, fun k hk => ?_⟩⟩
  have := h2 k (List.mem_map_of_mem (costs_mem.mpr hk))
  omega
theorem costs_none {l : List (Option Nat)} (h : costs l = []) : least l = none := least_none.mpr fun x hx => by
  cases x with
  | none => rfl
  | some n =>
    have := costs_mem.mpr hx
    rw [h] at this
    cases this
theorem reach_weigh {ln : List Int} {wy : List Bool} {S T : Stand} (o : OkStand ln wy S) (r : Reach ln wy S T) : weigh ln wy T ≤ weigh ln wy S := by
  induction r with
  | here => exact Int.le_refl _
  | on r h ih =>
    have := weigh_behinds (r.ok o).1 h
    omega
def oneOf : Option Nat → List Nat
  | none => []
  | some n => [n]
theorem costs_snoc {l : List (Option Nat)} {i : Nat} {x : Option Nat} (h : l[i]? = some x) : costs (l.take (i + 1)) = costs (l.take i) ++ oneOf x := by
  unfold costs
  rw [List.take_add_one, h, List.filterMap_append]
  cases x <;> rfl
section
variable {P : Program} {w : World} {K : PySem.W.Frag} {mg : Str → Option Value} {base : Heap}
/-- the price of a stand from which fewer than n moves may come -/
def spPriceOf (P : Program) (w : World) (n : Nat) : Sp := fun vs H Q _ => ∃ (t c d : Addr) (ln : List Int) (wy : List Bool) (S0 S : Stand) (ks : List Ent) (L : List Stand), vs = [.ref t, .ref c, .ref d] ∧ (TracksAt P w H t ln wy ∧ ∀ ys, H t = some (.lst ys) → V.ref d ∉ ys) ∧ StandAt H c S ∧ (OkStand ln wy S0 ∧ Few ln S0 ∧ Reach ln wy S0 S) ∧ weigh ln wy S < n ∧ KnownAt P w ln wy S0 H d ks L ∧
  ∀ H' ks' L', But d H H' → KnownAt P w ln wy S0 H' d ks' L' → ((∀ T ∈ L, T ∈ L') ∧ ∀ T ∈ L', T ∈ L ∨ Reach ln wy S T) → S ∈ L' → Q (vPrice (priceOf ln wy S)) H'
/-! ### prices -/
end
end Slx

set_option Elab.async false
set_option linter.all false
set_option maxRecDepth 100000
set_option maxHeartbeats 4000000
namespace Slx
open PySem PySem.Spec PyProof.Rows L2 Sl
/-! ### dict(prices) -/
theorem im_price {H : Hp} {v : V} {p : Option Nat} (h : Im H v (dPrice p)) : v = vPrice p := by
  cases p with
  | none => cases h; rfl
  | some n => cases h; rfl
abbrev Priced (ln : List Int) (wy : List Bool) (e : Ent) (T : Stand) : Prop := e.1 = kSt T ∧ e.2.2 = vPrice (priceOf ln wy T)
theorem ents_prices {K : PySem.W.Frag} {H : Hp} {ln : List Int} {wy : List Bool} : ∀ {M : List Stand} {xs : List V}, ImAll H xs (M.map (dPP ln wy)) → ∃ ps es, xs = ps.map V.ref ∧ Paired (fun p (e : Ent) => SqT K H p [.ref e.2.1, e.2.2]) ps es ∧ (∀ x ∈ es, KeyAt H x.2.1 x.1) ∧ Paired (Priced ln wy) es M
  | [], _, h => by
    cases h
    exact ⟨[], [], rfl, .nil, (by intro x hx; cases hx), .nil⟩
  | T :: M, _, h => by
    rw [List.map_cons] at h
    cases h with
    | cons h t =>
      obtain ⟨ps, es, rfl, p1, p2, p3⟩ := ents_prices (K := K) t
      obtain ⟨a, u1, u2, rfl, ta, i1, i2⟩ := im_pair h
      obtain ⟨b, rfl, hb⟩ := im_standAt i1
      have e2 := im_price i2
      subst e2
      refine ⟨a :: ps, (kSt T, b, vPrice (priceOf ln wy T)) :: es, rfl, .cons ta.sq p1, fun x hx => ?_, .cons ⟨rfl, rfl⟩ p3⟩
      rcases List.mem_cons.mp hx with e | hx
      · subst e
        exact hb.key
      · exact p2 x hx
theorem priced_keys {ln : List Int} {wy : List Bool} {es : List Ent} {M : List Stand} (p : Paired (Priced ln wy) es M) : Of es M := by
  unfold Of
  induction p with
  | nil => rfl
  | cons h t ih => rw [List.map_cons, List.map_cons, ih, h.1]
theorem priced_once {ln : List Int} {wy : List Bool} {es : List Ent} {M : List Stand} (p : Paired (Priced ln wy) es M) (nd : M.Nodup) : putsN [] es = es := puts_nodup (by
  rw [priced_keys p]
  exact List.pairwise_map.mpr (nd.imp fun {a b} ne e => ne (kSt_inj e)))
theorem priced_val {ln : List Int} {wy : List Bool} {es : List Ent} {M : List Stand} (p : Paired (Priced ln wy) es M) {T : Stand} (h : T ∈ M) : valN es (kSt T) = some (vPrice (priceOf ln wy T)) := by
  induction p with
  | nil => cases h
  | @cons e U es M hp t ih =>
    unfold valN
    rw [List.find?_cons]
    by_cases q : e.1 = kSt T
    · have eU : U = T := kSt_inj (hp.1.symm.trans q)
      simp only [decide_eq_true q, Option.map_some]
      rw [hp.2, eU]
    · simp only [decide_eq_false q]
      rcases List.mem_cons.mp h with z | z
      · exact absurd (by rw [z]; exact hp.1) q
      · exact ih z
/-! ### lists of moves as data -/
theorem lay_mvs : ∀ M : List Mv, PyData.canLayAll0 (M.map dM) = true ∧ PyData.depthAll (M.map dM) ≤ 2
  | [] => ⟨rfl, by show 0 ≤ 2; omega⟩
  | m :: M => by
    obtain ⟨a, b⟩ := lay_mvs M
    refine ⟨?_, ?_⟩
    · show (PyData.canLay0 (dM m) && PyData.canLayAll0 (M.map dM)) = true
      rw [a, SeqAt.canLay_of_shaped (shaped_move m)]
      rfl
    · show max (PyData.depth (dM m)) (PyData.depthAll (M.map dM)) ≤ 2
      have h1 : PyData.depth (dM m) ≤ 2 := by simp [dM, PyData.depth, PyData.depthAll]
      omega
theorem shaped_mvs (M : List Mv) : SeqAt.shaped (.list (M.map dM)) = true := by
  obtain ⟨a, b⟩ := lay_mvs M
  unfold SeqAt.shaped
  rw [show PyData.canLay0 (.list (M.map dM)) = true from a]
  have h : PyData.depth (.list (M.map dM)) ≤ 64 := by
    simp only [PyData.depth]; omega
  rw [decide_eq_true h]
  rfl
theorem self_mvs (M : List Mv) : PyData.eqv (.list (M.map dM)) (.list (M.map dM)) = true := self_map (fun m : Mv => kMv m) M
end Slx

set_option Elab.async false
set_option linter.all false
set_option maxRecDepth 100000
set_option maxHeartbeats 4000000
namespace Slx
open PySem PySem.Spec PyProof.Rows L2 Sl
/-! ### a set of stands as a dict -/
def dTrue (S : Stand) : PyData := .tuple [dSt S, .bool true]
theorem ents_true {K : PySem.W.Frag} {H : Hp} : ∀ {M : List Stand} {xs : List V}, ImAll H xs (M.map dTrue) → ∃ ps es, xs = ps.map V.ref ∧ Paired (fun p (e : Ent) => SqT K H p [.ref e.2.1, e.2.2]) ps es ∧ (∀ x ∈ es, KeyAt H x.2.1 x.1) ∧ es.map (·.1) = M.map kSt
  | [], _, h => by
    cases h
    exact ⟨[], [], rfl, .nil, (by intro x hx; cases hx), rfl⟩
  | S :: M, _, h => by
    rw [List.map_cons] at h
    cases h with
    | cons h t =>
      obtain ⟨ps, es, rfl, p1, p2, p3⟩ := ents_true (K := K) t
      obtain ⟨a, u1, u2, rfl, ta, i1, i2⟩ := im_pair h
      obtain ⟨b, rfl, hb⟩ := im_standAt i1
      refine ⟨a :: ps, (kSt S, b, u2) :: es, rfl, .cons ta.sq p1, fun x hx => ?_, by rw [List.map_cons, List.map_cons, p3]⟩
      rcases List.mem_cons.mp hx with e | hx
      · subst e
        exact hb.key
      · exact p2 x hx
theorem putN_mem {ks : List Ent} {k j : NestedKey} {b : Addr} {v : V} : j ∈ (putN ks k b v).map (·.1) ↔ j ∈ ks.map (·.1) ∨ j = k := by
  unfold putN
  by_cases h : (valN ks k).isSome = true
  · rw [if_pos h]
    have hk : k ∈ ks.map (·.1) := by
      apply Classical.byContradiction
      intro z
      rw [val_none.mpr z] at h
      cases h
    have e : (ks.map fun x => if x.1 = k then (x.1, x.2.1, v) else x).map (·.1) = ks.map (·.1) := by
      rw [List.map_map]
      refine List.map_congr_left fun x _ => ?_
      show (if x.1 = k then (x.1, x.2.1, v) else x).1 = x.1
      split <;> rfl
    rw [e]
    exact ⟨.inl, fun q => q.elim id fun e => e ▸ hk⟩
  · rw [if_neg h, List.map_append, List.mem_append]
    simp
theorem puts_mem {j : NestedKey} : ∀ {more ks : List Ent}, j ∈ (putsN ks more).map (·.1) ↔ j ∈ ks.map (·.1) ∨ j ∈ more.map (·.1)
  | [], ks => by simp [putsN]
  | x :: more, ks => by
    show j ∈ (putsN (putN ks x.1 x.2.1 x.2.2) more).map (·.1) ↔ _
    rw [puts_mem (more := more), putN_mem, List.map_cons, List.mem_cons, or_assoc]
/-- the dict tells just these stands -/
structure SetOf (ks : List Ent) (M : List Stand) : Prop where
  mem : ∀ T, (valN ks (kSt T)).isSome = decide (T ∈ M)
  key : ∀ x ∈ ks, ∃ T, T ∈ M ∧ x.1 = kSt T
theorem setOf_true {es : List Ent} {M : List Stand} (h : es.map (·.1) = M.map kSt) : SetOf (putsN [] es) M where
  mem := fun T => by
    have e : kSt T ∈ (putsN [] es).map (·.1) ↔ T ∈ M := by
      rw [puts_mem, h]
      refine ⟨fun q => ?_, fun q => .inr (List.mem_map_of_mem q)⟩
      rcases q with q | q
      · simp at q
      · obtain ⟨U, hU, e⟩ := List.mem_map.mp q
        rw [← kSt_inj e]
        exact hU
    by_cases hT : T ∈ M
    · rw [decide_eq_true hT]
      cases q : valN (putsN [] es) (kSt T) with
      | none => exact absurd (e.mpr hT) (val_none.mp q)
      | some _ => rfl
    · rw [decide_eq_false hT, val_none.mpr fun q => hT (e.mp q)]
      rfl
  key := fun x hx => by
    have q : x.1 ∈ (putsN [] es).map (·.1) := List.mem_map_of_mem hx
    rw [puts_mem, h] at q
    rcases q with q | q
    · simp at q
    · obtain ⟨U, hU, e⟩ := List.mem_map.mp q
      exact ⟨U, hU, e.symm⟩
section
variable {P : Program} {w : World} {K : PySem.W.Frag} {mg : Str → Option Value} {base : Heap}
theorem still_some {S : Stand} (h : allOut S = false) : still S ≠ [] := fun e => by
  have : allOut S = true := by
    unfold allOut
    rw [List.all_eq_true]
    intro s hs
    have := List.filter_eq_nil_iff.mp e s hs
    simpa using this
  rw [this] at h
  cases h
end
end Slx

set_option Elab.async false
set_option linter.all false
set_option maxRecDepth 100000
set_option maxHeartbeats 4000000
/-! == of two dicts of data that hold the same. -/
namespace Sl
open PySem PySem.Spec PyProof.Rows L2
section
variable {prog : Program} {w : World} {K : Type} [DecidableEq K] {knd : HeapKind prog w K} {A : Around} {E : Value → Shared → Prop} {s : Shared}
theorem same_heap {nm : String} {a b : Addr} {xs ys : List (K × Addr × Value)} {Q : Bool → Shared → Prop} (na : (a == sysModules) = false) (nb : (b == sysModules) = false) (da : s.heap.DictOfH knd a xs) (db : s.heap.DictOfH knd b ys) (hl : xs.length = ys.length) (hu : knd.room A)
    (all : ∀ x ∈ xs, ∃ (j : Nat) (p : Addr × Value), ys[j]? = some (x.1, p) ∧ SeqAt.EqAt A s x.2.2 p.2 true) (fin : Q true s) : wpAny (model prog w) A (Builtin.Dict.samePairs nm a b) Q E s := by
  obtain ⟨oa, es, ep, ga, _, ea, la, isa, _⟩ := da
  obtain ⟨ob, fs, ep', gb, _, eb, lb, isb, ndb⟩ := db
  have za : es.size = xs.length := size_of_entries la
  have zb : fs.size = ys.length := size_of_entries lb
  unfold Builtin.Dict.samePairs Builtin.Dict.showsAll
  rw [if_neg (show ¬ (a == sysModules) = true by rw [na]; exact Bool.false_ne_true), if_neg (show ¬ (b == sysModules) = true by rw [nb]; exact Bool.false_ne_true)]
  refine wpAny_bind (wpAny_pure (wpAny_bind (wpAny_pure (wpAny_bind (wpAny_dictEntries ga ea ?_)))))
  dsimp only
  refine wpAny_bind (wpAny_dictEntries gb eb ?_)
  have zz : es.size = fs.size := by omega
  rw [if_neg (by rw [zz]; simp)]
  refine wpAny_bind (wpAny_dictEpoch ga ea (wpAny_bind ?_))
  rw [Std.Legacy.Range.forIn_eq_forIn_range']
  simp only [Std.Legacy.Range.size, Nat.sub_zero, Nat.add_sub_cancel, Nat.div_one]
  refine wpAny_forIn_list _ (fun rest q t => t = s ∧ q = (none, ()) ∧ ∃ i, rest = List.range' i (es.size - i) ∧ i ≤ es.size) _ ?_ ?_ _ _ ⟨rfl, rfl, 0, by simp, Nat.zero_le _⟩
  · rintro n rest q t ⟨rfl, rfl, i, hr, hi⟩
    have lt : i < es.size := by
      rcases Nat.lt_or_ge i es.size with h | h
      · exact h
      · rw [Nat.sub_eq_zero_of_le h] at hr
        simp at hr
    obtain ⟨rfl, hrest⟩ : n = i ∧ rest = List.range' (i + 1) (es.size - (i + 1)) := by
      rw [show es.size - i = (es.size - (i + 1)) + 1 by omega, List.range'_succ] at hr
      injection hr with h1 h2
      exact ⟨h1, h2⟩
    refine wpAny_bind (wpAny_dictEntries ga ea ?_)
    rw [Array.getElem?_eq_getElem lt]
    have ltx : n < xs.length := by omega
    have en : es[n] = entryOfKey knd xs[n] := by
      have z := entry_at la n
      rw [Array.getElem?_eq_getElem lt, List.getElem?_eq_getElem ltx] at z
      exact Option.some.inj z
    have hx : xs[n] ∈ xs := List.getElem_mem ltx
    obtain ⟨j, p, hj, eq⟩ := all _ hx
    show wpAny _ _ (holding [es[n].key, es[n].val] _ >>= _) _ _ _
    rw [en]
    refine wpAny_bind (wpAny_holding (wpAny_bind (wpAny_dictFind_heap (knd := knd) (k := xs[n].1) (a := xs[n].2.1) hu (isa _ hx) gb eb lb isb ndb (fun none_ => absurd hj (none_ j p)) fun j' p' hj' => ?_)))
    have ej : j' = j := by
      have e1 : (ys.map (·.1))[j']? = some xs[n].1 := by rw [List.getElem?_map, hj']; rfl
      have e2 : (ys.map (·.1))[j]? = some xs[n].1 := by rw [List.getElem?_map, hj]; rfl
      exact (List.getElem?_inj (by rw [List.length_map]; exact (List.getElem?_eq_some_iff.mp hj').1) ndb).mp (e1.trans e2.symm)
    subst ej
    rw [hj] at hj'
    cases hj'
    have ltf : j' < fs.size := by rw [zb]; exact (List.getElem?_eq_some_iff.mp hj).1
    have fn : fs[j'] = entryOfKey knd (xs[n].1, p) := by
      have z := entry_at lb j'
      rw [Array.getElem?_eq_getElem ltf, hj] at z
      exact Option.some.inj z
    refine wpAny_bind (wpAny_dictEntries gb eb ?_)
    rw [Array.getElem?_eq_getElem ltf]
    refine wpAny_holding ?_
    rw [fn]
    refine eq prog w _ _ ?_
    show wpAny _ _ (if (!true) = true then _ else _) _ _ _
    rw [if_neg (by decide)]
    refine wpAny_bind (wpAny_dictEpoch ga ea ?_)
    rw [if_neg (by simp)]
    exact wpAny_pure ⟨rfl, rfl, n + 1, hrest, lt⟩
  · rintro q t ⟨rfl, rfl, i, hr, hi⟩
    exact wpAny_pure fin
theorem eq_heap {a b : Addr} {xs ys : List (K × Addr × Value)} {Q : Value → Shared → Prop} (na : (a == sysModules) = false) (nb : (b == sysModules) = false) (da : s.heap.DictOfH knd a xs) (db : s.heap.DictOfH knd b ys) (hl : xs.length = ys.length) (hu : knd.room A.in1) (hc : A.units < cLine)
    (all : ∀ x ∈ xs, ∃ (j : Nat) (p : Addr × Value), ys[j]? = some (x.1, p) ∧ SeqAt.EqAt A.in1 s x.2.2 p.2 true) (fin : Q (.bool true) s) : wpAny (model prog w) A (compareOp .Eq (.ref a) (.ref b)) Q E s := by
  refine wpAny_richCompare_same_room (op := .Eq) da.typeIs db.typeIs PySem.F.slot_dict_eq (wpAny_call_entry PySem.F.slot_dict_eq da.typeIs PySem.F.entry_dict_eq ?_ (PySem.F.args_dict_eq_2 _ _)) hc
  show wpAny _ _ (Builtin.Dict.dictSlotArgs "__eq__" ⟨[.ref a, .ref b], []⟩ >>= _) _ _ s
  refine wpAny_bind ?_
  unfold Builtin.Dict.dictSlotArgs
  refine wpAny_bind (wpAny_notOrdered_dict da.typeIs (show wpAny _ _ (pure (Value.ref a, Value.ref b)) _ _ s from wpAny_pure (wpAny_bind (wpAny_isInstance (T := "dict") db.typeIs PySem.F.sub_dict_dict ?_))))
  simp only [Bool.not_true, Bool.false_eq_true, if_false]
  refine wpAny_bind (wpAny_pure (wpAny_bind (wpAny_pure (wpAny_bind (same_heap na nb da db hl hu all (wpAny_pure ⟨_, rfl, (fun x => nomatch x), ?_⟩))))))
  exact fin
end
/-- the values that are compared: none, a whole number -/
def flatV2 : V → Bool
  | .non => true
  | .int _ => true
  | _ => false
/-- d == e, keys that are data, values none or whole numbers; both hold the same -/
def rEqN (P : Program) (w : World) : R2 := fun x y H Q => ∃ a b ks ls, (x = .ref a ∧ y = .ref b) ∧ (DR P w H a ks ∧ DR P w H b ls) ∧ ks.length = ls.length ∧ (∀ e ∈ ks, flatV2 e.2.2 = true ∧ valN ls e.1 = some e.2.2) ∧ Q (.bl true) H
theorem op_eqN {X : Cx} {P : Program} {w : World} (hu : X.A.units + 9 < cLine) (hP : X.prog = P := by rfl) (hw : X.w = w := by rfl) : OpR X (compareOp .Eq) (rEqN P w) := fun pins s σ H _ _ v u Q J rx ry ⟨a, b, ks, ls, ⟨e1, e2⟩, ⟨d1, d2⟩, hl, all, q⟩ => by
  subst hP hw e1 e2
  cases rx
  cases ry
  obtain ⟨_, na, xs, r1, h1⟩ := d1.heap J
  obtain ⟨_, nb, ys, r2, h2⟩ := d2.heap J
  have l1 := Paired.length r1
  have l2 := Paired.length r2
  refine eq_heap na nb h1 h2 (by omega) (show X.A.in1.units + 8 < cLine by rw [Around.in1_units]; omega) (by omega) (fun x hx => ?_) ⟨.bl true, H, J, rfl, q⟩
  obtain ⟨i, hi⟩ := List.mem_iff_getElem?.mp hx
  have hk : i < ks.length := by rw [l1]; exact (List.getElem?_eq_some_iff.mp hi).1
  obtain ⟨x', hx', r⟩ := paired_get r1 (List.getElem?_eq_getElem hk)
  rw [hi] at hx'
  cases hx'
  obtain ⟨fl, val⟩ := all _ (List.getElem_mem hk)
  have rv := r2.val (ks[i]).1
  rw [val] at rv
  obtain ⟨vy, hy, ry⟩ := RelO.some_of (v := (ks[i]).2.2) (o := (atKey ys (ks[i]).1).map (·.2)) rv
  obtain ⟨p, hp, rfl⟩ := Option.map_eq_some_iff.mp hy
  obtain ⟨j, hj⟩ : ∃ j : Nat, ys[j]? = some ((ks[i]).1, p) := by
    unfold atKey at hp
    obtain ⟨z, hz, ez⟩ := Option.map_eq_some_iff.mp hp
    have h3 := List.mem_of_find?_eq_some hz
    have h4 : z.1 = (ks[i]).1 := by simpa using List.find?_some hz
    obtain ⟨j, hj⟩ := List.mem_iff_getElem?.mp h3
    refine ⟨j, ?_⟩
    rw [hj, ← h4, ← ez]
  rw [r.1] at hj
  refine ⟨j, p, hj, ?_⟩
  have rx := r.2.2
  generalize (ks[i]).2.2 = vv at fl rx ry
  cases vv with
  | non =>
    rw [show x.2.2 = Value.none from rx, show p.2 = Value.none from ry]
    exact PySem.W.keq_flat (d := .none) (e := .none) PyProof.V.Flat.none PyProof.V.Flat.none
  | int n =>
    obtain ⟨t1, e1⟩ := (show ∃ t, x.2.2 = Value.int n t from rx)
    obtain ⟨t2, e2⟩ := (show ∃ t, p.2 = Value.int n t from ry)
    rw [e1, e2]
    have := PySem.W.keq_flat (A := X.A.in1) (s := s) (PyProof.V.Flat.int n t1) (PyProof.V.Flat.int n t2)
    simpa [PyData.eqv] using this
  | _ => cases fl
end Sl

set_option Elab.async false
set_option linter.all false
set_option maxRecDepth 100000
set_option maxHeartbeats 4000000
namespace Slx
open PySem PySem.Spec PyProof.Rows L2 Sl
theorem canLay_ints : ∀ l : List Int, PyData.canLayAll0 (l.map PyData.int) = true ∧ PyData.depthAll (l.map PyData.int) = 0 := flat_map PyData.int (fun _ => rfl) (fun _ => rfl)
theorem shaped_ints (l : List Int) : SeqAt.shaped (.list (l.map PyData.int)) = true := by
  obtain ⟨a, b⟩ := canLay_ints l
  unfold SeqAt.shaped
  rw [show PyData.canLay0 (.list (l.map PyData.int)) = true from a]
  have h : PyData.depth (.list (l.map PyData.int)) ≤ 64 := by
    simp only [PyData.depth]; omega
  rw [decide_eq_true h]
  rfl
theorem eqv_ints (l : List Int) : PyData.eqv (.list (l.map PyData.int)) (.list []) = l.isEmpty := by cases l <;> rfl
theorem im_ints {H : Hp} : ∀ l : List Int, ImAll H (l.map V.int) (l.map PyData.int)
  | [] => .nil
  | x :: l => .cons (.int x) (im_ints l)
section
variable {P : Program} {w : World} {K : PySem.W.Frag} {mg : Str → Option Value} {base : Heap}
/-- those that are not out, as the law picks them: none or some -/
theorem still_empty (S : Stand) : (still S).isEmpty = allOut S := by
  cases h : allOut S with
  | true => rw [still_none h]; rfl
  | false =>
    have := still_some h
    cases e : still S with
    | nil => exact absurd e this
    | cons x l => rfl
end
end Slx

set_option Elab.async false
set_option linter.all false
set_option maxRecDepth 100000
set_option maxHeartbeats 4000000
namespace Slx
open PySem PySem.Spec PyProof.Rows L2 Sl
/-! ### stands by how many moves may come from them -/
def isSide : Spot → Bool
  | .side _ => true
  | _ => false
theorem weigh_left (ln : List Int) : ∀ (wy : List Bool) (S : Stand), S.length = wy.length → weigh ln wy S = 2 * leftOf ln wy S - (S.countP isSide : Nat)
  | [], [], _ => rfl
  | [], _ :: _, h => by simp at h
  | _ :: _, [], h => by simp at h
  | w :: wy, s :: S, h => by
    have ih := weigh_left ln wy S (by simpa using h)
    show weigh1 ln w s + weigh ln wy S = 2 * (stepsLeft ln w s + leftOf ln wy S) - _
    rw [ih, List.countP_cons]
    cases s with
    | out => simp [weigh1, stepsLeft, isSide]
    | lane p =>
      show 2 * stepsLeft ln w (.lane p) + _ = _
      simp only [isSide]
      simp
      omega
    | side p =>
      show 2 * stepsLeft ln w (.side p) - 1 + _ = _
      simp only [isSide]
      simp
      omega
def rowOf (ln : List Int) (wy : List Bool) (L : List Stand) (j : Nat) : List Stand := L.filter fun T => decide (weigh ln wy T = (j : Int))
theorem rowOf_snoc {ln : List Int} {wy : List Bool} {L : List Stand} {T : Stand} {j : Nat} : rowOf ln wy (L ++ [T]) j = rowOf ln wy L j ++ (if weigh ln wy T = (j : Int) then [T] else []) := by
  unfold rowOf
  rw [List.filter_append]
  by_cases h : weigh ln wy T = (j : Int) <;> simp [h]
theorem rowOf_mem {ln : List Int} {wy : List Bool} {L : List Stand} {T : Stand} {j : Nat} : T ∈ rowOf ln wy L j ↔ T ∈ L ∧ weigh ln wy T = (j : Int) := by
  unfold rowOf
  rw [List.mem_filter]
  simp
/-- those of fewer than j -/
def doneOf (ln : List Int) (wy : List Bool) (L : List Stand) (j : Nat) : List Stand := (List.range j).flatMap fun i => rowOf ln wy L i
theorem doneOf_mem {ln : List Int} {wy : List Bool} {L : List Stand} {T : Stand} {j : Nat} (h : 0 ≤ weigh ln wy T) : T ∈ doneOf ln wy L j ↔ T ∈ L ∧ weigh ln wy T < (j : Int) := by
  unfold doneOf
  rw [List.mem_flatMap]
  constructor
  · rintro ⟨i, hi, hT⟩
    obtain ⟨h1, h2⟩ := rowOf_mem.mp hT
    have := List.mem_range.mp hi
    exact ⟨h1, by omega⟩
  · rintro ⟨h1, h2⟩
    refine ⟨(weigh ln wy T).toNat, List.mem_range.mpr (by omega), rowOf_mem.mpr ⟨h1, by omega⟩⟩
theorem doneOf_succ {ln : List Int} {wy : List Bool} {L : List Stand} {j : Nat} : doneOf ln wy L (j + 1) = doneOf ln wy L j ++ rowOf ln wy L j := by
  unfold doneOf
  rw [List.range_succ, List.flatMap_append]
  simp
theorem doneOf_nodup {ln : List Int} {wy : List Bool} {L : List Stand} (nd : L.Nodup) : ∀ j, (doneOf ln wy L j).Nodup
  | 0 => by simp [doneOf]
  | j + 1 => by
    rw [doneOf_succ]
    refine List.nodup_append.mpr ⟨doneOf_nodup nd j, nd.filter _, fun a ha b hb e => ?_⟩
    subst e
    obtain ⟨i, hi, hT⟩ := List.mem_flatMap.mp ha
    have h1 := (rowOf_mem.mp hT).2
    have h2 := (rowOf_mem.mp hb).2
    have := List.mem_range.mp hi
    omega
theorem val_put {ks : List Ent} {k j : NestedKey} {b : Addr} {v : V} : valN (putN ks k b v) j = if j = k then some v else valN ks j := by
  unfold putN
  by_cases h : (valN ks k).isSome = true
  · rw [if_pos h]
    unfold valN at h ⊢
    induction ks with
    | nil => simp at h
    | cons x ks ih =>
      rw [List.map_cons, List.find?_cons, List.find?_cons]
      by_cases hx : x.1 = k
      · rw [if_pos hx]
        by_cases hj : j = k
        · rw [if_pos hj]
          have e : x.1 = j := by rw [hx, hj]
          simp only [decide_eq_true e, Option.map_some]
        · rw [if_neg hj]
          have e : ¬ x.1 = j := fun z => hj (z.symm.trans hx)
          simp only [decide_eq_false e]
          -- the rest keeps its values elsewhere
          have : ∀ l : List Ent, ((l.map fun x => if x.1 = k then (x.1, x.2.1, v) else x).find? fun x => decide (x.1 = j)).map (·.2.2) = (l.find? fun x => decide (x.1 = j)).map (·.2.2) := fun l => by
            induction l with
            | nil => rfl
            | cons y l ih2 =>
              rw [List.map_cons, List.find?_cons, List.find?_cons]
              by_cases hy : y.1 = k
              · rw [if_pos hy]
                have e2 : ¬ y.1 = j := fun z => hj (z.symm.trans hy)
                simp only [decide_eq_false e2]
                exact ih2
              · rw [if_neg hy]
                by_cases e2 : y.1 = j
                · simp only [decide_eq_true e2]
                · simp only [decide_eq_false e2]
                  exact ih2
          exact this ks
      · rw [if_neg hx]
        rw [List.find?_cons] at h
        simp only [decide_eq_false hx] at h
        have ih' := ih h
        by_cases e : x.1 = j
        · have hj : ¬ j = k := fun z => hx (e.trans z)
          rw [if_neg hj]
          simp only [decide_eq_true e]
        · simp only [decide_eq_false e]
          exact ih'
  · rw [if_neg h]
    unfold valN at h ⊢
    rw [List.find?_append]
    by_cases hj : j = k
    · rw [if_pos hj, hj]
      cases hf : ks.find? fun x => decide (x.1 = k) with
      | some x => rw [hf] at h; simp at h
      | none => simp
    · rw [if_neg hj]
      have e : ¬ k = j := fun z => hj z.symm
      cases hf : ks.find? fun x => decide (x.1 = j) with
      | some x => simp
      | none => simp [e]
end Slx

set_option Elab.async false
set_option linter.all false
set_option maxRecDepth 100000
set_option maxHeartbeats 4000000
namespace Slx
open PySem PySem.Spec PyProof.Rows L2 Sl
theorem put_old {ks : List Ent} {k : NestedKey} {b : Addr} {v : V} (h : (valN ks k).isSome = true) : (putN ks k b v).map (·.1) = ks.map (·.1) := by
  unfold putN
  rw [if_pos h, List.map_map]
  refine List.map_congr_left fun x _ => ?_
  show (if x.1 = k then (x.1, x.2.1, v) else x).1 = x.1
  by_cases e : x.1 = k
  · rw [if_pos e]
  · rw [if_neg e]
theorem of_get {ks : List Ent} {L : List Stand} (h : Of ks L) {i : Nat} {e : Ent} (he : ks[i]? = some e) : ∃ T, L[i]? = some T ∧ e.1 = kSt T := by
  have z := congrArg (·[i]?) h
  simp only [List.getElem?_map, he, Option.map_some] at z
  cases e2 : L[i]? with
  | none => rw [e2] at z; cases z
  | some T =>
    rw [e2] at z
    exact ⟨T, rfl, Option.some.inj z⟩
theorem Of.put_old {ks : List Ent} {L : List Stand} (h : Of ks L) {S : Stand} (n : S ∈ L) (b : Addr) (v : V) : Of (putN ks (kSt S) b v) L := by
  unfold Of
  rw [Slx.put_old (by rw [h.mem, decide_eq_true n])]
  exact h
theorem side_word (s : Spot) : ∃ wd rest, vS s = .str wd :: rest ∧ decide (V.str wd = .str "side") = isSide s := by
  cases s with
  | out => exact ⟨_, _, rfl, by show decide (V.str "out" = V.str "side") = false; decide⟩
  | lane p => exact ⟨_, _, rfl, by show decide (V.str "lane" = V.str "side") = false; decide⟩
  | side p => exact ⟨_, _, rfl, by show decide (V.str "side" = V.str "side") = true; decide⟩
section
variable {P : Program} {w : World} {K : PySem.W.Frag} {mg : Str → Option Value} {base : Heap}
/-- all prices by the stands that are reached -/
structure KnownD (P : Program) (w : World) (ln : List Int) (wy : List Bool) (S : Stand) (H : Hp) (d : Addr) (ks : List Ent) (L : List Stand) : Prop where
  dn : DN P w H d ks
  of : Of ks L
  nodup : L.Nodup
  mem : ∀ T, T ∈ L ↔ Reach ln wy S T
  val : ∀ T ∈ L, valN ks (kSt T) = some (vPrice (priceOf ln wy T))
/-- where the moves lead is kept at a stand -/
def LedAt (G : Hp) (wa : Addr) (ln : List Int) (wy : List Bool) (ks : List Ent) (T : Stand) : Prop := ∃ l xs, valN ks (kSt T) = some (.ref l) ∧ l ≠ wa ∧ G l = some (.lst xs) ∧ ImAll G xs ((behinds ln wy T).map dSt)
def spLKnown (P : Program) (w : World) (K : PySem.W.Frag) : Sp := fun vs H Q _ => ∃ a b c ln wy S, vs = [.ref a, .ref b, .ref c] ∧ LaneAt K H a ln ∧ WaysAt K H b wy ∧ StandAt H c S ∧ OkStand ln wy S ∧ Few ln S ∧
  ∀ H' d ks L, Same H H' → H d = none → KnownD P w ln wy S H' d ks L → Q (.ref d) H'
theorem ok_lKnown (T : Txt K mg) : DefOk P w K mg base 3 "_law_known" ["_law_lane", "_law_ways", "_law_stand"] (spLKnown P w K) := by
  have D_lMoves : DefOk P w K mg base 2 "_law_moves" ["_law_lane", "_law_ways", "_law_stand"] (spLMoves K) := ok_lMoves T
  have D_lLeft : DefOk P w K mg base 1 "_law_left" ["_law_lane", "_law_ways", "_law_stand"] (spLLeft K) := ok_lLeft T
  refine T.f_lKnown.ok sc_lKnown (fun vs H Q E h => by obtain ⟨a, b, c, ln, wy, S, rfl, _⟩ := h; rfl) (fun f cdv A outer s H vs Q E hr h => ?_)
  obtain ⟨a, b, c, ln, wy, S, rfl, hL, hW, hS, ok, few, q⟩ := h
  refine ⟨_, (pss_cons (ps_set (i := 3) sc_lKnown.nd rfl (.inl rfl) (pe_nnew (P := P) (w := w)))
      (pss_cons (ps_set (i := 4) sc_lKnown.nd rfl (.inl rfl) (pe_lst (pa_cons (pv 2) pa_nil)))
      (pss_cons (ps_while PassesOwn.never (pt_cmpR (r := rNeD K) (op_neD (hu64 hr)) (pv 4) (pe_lst pa_nil) (nomark _)) (pss_cons (ps_set (i := 5) sc_lKnown.nd rfl (.inl rfl) (pe_bm0 PySem.F.plainAttrs_list PySem.F.slot_list_pop PySem.F.type_list_pop mt_pop (pv 4)))
      (pss_one (ps_if (pt_cmp (pc_nnotin (P := P) (w := w) (hu9 hr) (pv 5) (pv 3))) (pss_cons (ps_nput (P := P) (w := w) (hu9 hr) (pv 3) (pv 5) (pe_lc (g := gTup K 2 (gCons (gName 6) (gCons (gName 7) gNil))) (own := [("_law_move", 6), ("_law_fresh", 7)]) rfl sc_lKnown.nd (pi_listK (K := K) (pe_def D_lMoves (hr.mono (by omega)) (pa_cons (pv 0) (pa_cons (pv 1) (pa_cons (pv 5) pa_nil))))) (blkOk_by (own := [("_law_move", 6), ("_law_fresh", 7)]) (N := ["_law_lane", "_law_ways", "_law_stand", "_law_led", "_law_waiting", "_law_here", "_law_move", "_law_fresh", "_law_found", "_law_turn", "_law_rows", "_law_spot_here", "_law_row", "_law_some"]) (sc := defScope s_lKnown) (by decide +kernel)) (fun _ _ _ _ _ => (pg_tup rfl (pgs_cons (pg_name (i := 6) sc_lKnown.nd rfl (.inl rfl)) (pgs_cons (pg_name (i := 7) sc_lKnown.nd rfl (.inl rfl)) pgs_nil)))) (fun _ _ _ _ _ => pts_nil) (fun _ _ _ _ _ => (pv 7))) (by rfl))
      (pss_one (ps_set (i := 4) sc_lKnown.nd rfl (.inl rfl) (pe_op op_cat (pv 4) (pe_nget (P := P) (w := w) (hu9 hr) (pv 3) (pv 5) (fun _ _ => rfl)))))) pss_nil))))
      (pss_cons (ps_set (i := 8) sc_lKnown.nd rfl (.inr rfl) (pe_nnew (P := P) (w := w)))
      (pss_cons (ps_setLc (g := gName 9) (own := [("_law_turn", 9)]) (i := 10) rfl sc_lKnown.nd rfl rfl (sw_true rfl rfl rfl (by decide +kernel)) (pi_range1 (by rfl) T.b_range (pa_cons (pe_op op_add (pe_op op_mul (pe_op op_mul pe_int (pe_callB call_len_seq (by rfl) T.b_len (by decide +kernel) (pa_cons (pv 0) pa_nil))) (pe_callB call_len_seq (by rfl) T.b_len (by decide +kernel) (pa_cons (pv 1) pa_nil))) pe_int) pa_nil)) (blkOk_by (own := [("_law_turn", 9)]) (N := ["_law_lane", "_law_ways", "_law_stand", "_law_led", "_law_waiting", "_law_here", "_law_move", "_law_fresh", "_law_found", "_law_turn", "_law_rows", "_law_spot_here", "_law_row", "_law_some"]) (sc := defScope s_lKnown) (by decide +kernel)) (fun _ _ _ _ _ => (pg_name (i := 9) sc_lKnown.nd rfl (.inl rfl))) (fun _ _ _ _ _ => pts_nil) (fun _ _ _ _ _ => (pe_lst pa_nil)))
      (pss_cons (ps_lock (ps_for PassesOwn.never rfl (pi_keysN (P := P) (w := w) (pv 3)) (pg_name (i := 5) sc_lKnown.nd rfl (.inl rfl)) (pss_one (ps_expr (pe_bm PySem.F.plainAttrs_list PySem.F.slot_list_append PySem.F.type_list_append mt_append (pe_ix (r := rIxL K) ix_list (pv 10) (pe_op op_sub (pe_op op_mul pe_int (pe_def D_lLeft (hr.mono (by omega)) (pa_cons (pv 0) (pa_cons (pv 1) (pa_cons (pv 5) pa_nil))))) (pe_callB call_len_seq (by rfl) T.b_len (by decide +kernel) (pa_cons (pe_lc (g := gName 11) (own := [("_law_spot_here", 11)]) rfl sc_lKnown.nd (pi_tupK (K := K) (pv 5)) (blkOk_by (own := [("_law_spot_here", 11)]) (N := ["_law_lane", "_law_ways", "_law_stand", "_law_led", "_law_waiting", "_law_here", "_law_move", "_law_fresh", "_law_found", "_law_turn", "_law_rows", "_law_spot_here", "_law_row", "_law_some"]) (sc := defScope s_lKnown) (by decide +kernel)) (fun _ _ _ _ _ => (pg_name (i := 11) sc_lKnown.nd rfl (.inl rfl))) (fun _ _ _ _ _ => (pts_one (pt_cmpR op_eq (pe_ix (r := rIxT K) ix_tup (pv 11) pe_int (fun _ _ => rfl)) pe_str (nomark _)))) (fun _ _ _ _ _ => (pv 11))) pa_nil))) (fun _ _ => rfl)) (pa_cons (pv 5) pa_nil))))))
      (pss_cons (ps_for PassesOwn.never rfl (pi_listK (K := K) (pv 10)) (pg_name (i := 12) sc_lKnown.nd rfl (.inl rfl)) (pss_one (ps_for PassesOwn.never rfl (pi_listK (K := K) (pv 12)) (pg_name (i := 5) sc_lKnown.nd rfl (.inl rfl)) (pss_cons (ps_setLc (g := gName 7) (own := [("_law_fresh", 7)]) (i := 13) rfl sc_lKnown.nd rfl rfl (sw_true rfl rfl rfl (by decide +kernel)) (pi_listK (K := K) (pe_nget (P := P) (w := w) (hu9 hr) (pv 3) (pv 5) (fun _ _ => rfl))) (blkOk_by (own := [("_law_fresh", 7)]) (N := ["_law_lane", "_law_ways", "_law_stand", "_law_led", "_law_waiting", "_law_here", "_law_move", "_law_fresh", "_law_found", "_law_turn", "_law_rows", "_law_spot_here", "_law_row", "_law_some"]) (sc := defScope s_lKnown) (by decide +kernel)) (fun _ _ _ _ _ => (pg_name (i := 7) sc_lKnown.nd rfl (.inl rfl))) (fun _ _ _ _ _ => (pts_one (pt_cmpR (r := rNotN) op_notN1 (pe_nget (P := P) (w := w) (hu9 hr) (pv 8) (pv 7) (fun _ _ => rfl)) pe_non (nomark _)))) (fun _ _ _ _ _ => (pe_nget (P := P) (w := w) (hu9 hr) (pv 8) (pv 7) (fun _ _ => rfl))))
      (C8.pss_cut (ps_nput (P := P) (w := w) (hu9 hr) (pv 8) (pv 5) (pe_ifExp (pt_cmpR (r := rNeD K) (op_neD (hu64 hr)) (pv 13) (pe_lst pa_nil) (nomark _)) (pe_op op_add (pe_callB (cr_min rfl) (by rfl) T.b_min (by decide +kernel) (pa_cons (pv 13) pa_nil)) pe_int) pe_non) (by rfl))
      (pss_one (ps_if (pt_cmpR (r := rEqD K) (op_eqD (hu64 hr)) (pe_lc (g := gName 11) (own := [("_law_spot_here", 11)]) rfl sc_lKnown.nd (pi_tupK (K := K) (pv 5)) (blkOk_by (own := [("_law_spot_here", 11)]) (N := ["_law_lane", "_law_ways", "_law_stand", "_law_led", "_law_waiting", "_law_here", "_law_move", "_law_fresh", "_law_found", "_law_turn", "_law_rows", "_law_spot_here", "_law_row", "_law_some"]) (sc := defScope s_lKnown) (by decide +kernel)) (fun _ _ _ _ _ => (pg_name (i := 11) sc_lKnown.nd rfl (.inl rfl))) (fun _ _ _ _ _ => (pts_one (pt_cmpR op_ne (pe_ix (r := rIxT K) ix_tup (pv 11) pe_int (fun _ _ => rfl)) pe_str (nomark _)))) (fun _ _ _ _ _ => (pv 11))) (pe_lst pa_nil) (nomark _)) (pss_one (ps_nput (P := P) (w := w) (hu9 hr) (pv 8) (pv 5) pe_int (by rfl))) pss_nil)))))))
      (pss_one (ps_ret (pv 8)))))))))), ?_⟩
  refine fun d hd => ?_
  have s1 := same_new (o := dNO P w d []) hd
  refine ⟨.ref c, rfl, one_size, fun w0 hw0 => ?_⟩
  have s12 := same_new (o := .lst [.ref c]) hw0
  have s2 := s1.trans s12
  refine ⟨fun m σ G => ∃ (wa : Addr) (ks : List Ent) (L W : List Stand) (xs : List V) (y5 : Option V), (Same H G ∧ H wa = none) ∧ (G wa = some (.lst xs) ∧ ImAll G xs (W.map dSt)) ∧ (DN P w G d ks ∧ Of ks L) ∧ Search ln wy S L W ∧ W.length ≤ 12 * L.length + 1 ∧ (∀ T ∈ L, LedAt G wa ln wy ks T) ∧
      σ = [some (.ref a), some (.ref b), some (.ref c), some (.ref d), some (.ref wa), y5, none, none, none, none, none, none, none, none] ∧ m = 13 * (200000 - L.length) + W.length,
    ⟨_, w0, [], [], [S], [.ref c], none, ⟨s2, s1.free hw0⟩, ⟨upd_same, .cons (Im.mono (Ti.of s2) hS.im) .nil⟩, ⟨DN.same ⟨upd_same, fun _ h => nomatch h⟩ s12, rfl⟩, Search.init ln wy S, Nat.le_refl _, (fun _ h => nomatch h), rfl, rfl⟩, ?_⟩
  rintro m σ G ⟨wa, ks, L, W, xs, y5, ⟨sG, hwa⟩, ⟨ew, iw⟩, ⟨dn, of⟩, se, hn, led, rfl, hm⟩
  have lw : xs.length = W.length := by rw [iw.length, List.length_map]
  have n6 : S.length ≤ 6 := by rw [ok.len]; exact ok.most
  have hfew := se.few ok
  have hF : Sl.room ln S.length ≤ 200000 := few
  refine ⟨.ref wa, rfl, Nat.zero_le _, fun e he => ?_⟩
  have sE := same_new (o := .lst []) he
  refine ⟨.list (W.map dSt), .list [], .lst (.inl (.inl (sE _ _ ew))) (iw.mono (Ti.of sE)).dp, .lst (.inl (.inl upd_same)) .nil, shaped_stands W, rfl, _, rfl, ?_⟩
  rw [eqv_noneS]
  rcases List.eq_nil_or_concat W with hW0 | ⟨rest, t, hWc⟩
  · subst hW0
    refine iteF ?_
    have mem : ∀ T, T ∈ L ↔ Reach ln wy S T := fun T => se.done T
    have nd := se.nodup
    have led : ∀ T ∈ L, ∃ l xs, valN ks (kSt T) = some (.ref l) ∧ upd G e (.lst []) l = some (.lst xs) ∧ ImAll (upd G e (.lst [])) xs ((behinds ln wy T).map dSt) := fun T hT => by
      obtain ⟨l, zs, h1, _, h3, h4⟩ := led T hT
      exact ⟨l, zs, h1, sE _ _ h3, h4.mono (Ti.of sE)⟩
    have dn1 := dn.same sE
    have sG1 := sG.trans sE
    generalize upd G e (.lst []) = G1 at led dn1 sG1
    clear sG sE dn ew iw he
    refine fun fd hfd => ?_
    have f1 := same_new (o := dNO P w fd []) hfd
    have dnf : DN P w (upd G1 fd (dNO P w fd [])) fd [] := ⟨upd_same, fun _ h => nomatch h⟩
    have dn2 := dn1.same f1
    have led2 : ∀ T ∈ L, ∃ l xs, valN ks (kSt T) = some (.ref l) ∧ upd G1 fd (dNO P w fd []) l = some (.lst xs) ∧ ImAll (upd G1 fd (dNO P w fd [])) xs ((behinds ln wy T).map dSt) := fun T hT => by
      obtain ⟨l, zs, h1, h3, h4⟩ := led T hT
      exact ⟨l, zs, h1, f1 _ _ h3, h4.mono (Ti.of f1)⟩
    have sG2 := sG1.trans f1
    have hfd0 := sG1.free hfd
    have nfd : fd ≠ d := fun z => by rw [z, dn1.at_] at hfd; cases hfd
    generalize upd G1 fd (dNO P w fd []) = G2 at f1 dnf dn2 led2 sG2
    clear led dn1 sG1 f1
    have lmL : (ln.map V.int).length = ln.length := List.length_map ..
    have lmW : (wy.map fun b => V.str (wS b)).length = wy.length := List.length_map ..
    have o8 := ok.lane.most
    have o6 := ok.most
    have hprod : ln.length * wy.length ≤ 48 := Nat.le_trans (Nat.mul_le_mul o8 o6) (by decide)
    refine ⟨.ref a, rfl, a, _, rfl, .inl (sG2.seq hL), 2, _, rfl, rfl, .inl ⟨by decide, by decide⟩, .ref b, rfl, b, _, rfl, .inl (sG2.seq hW), _, _, rfl, rfl, ?_⟩
    rw [lmL, lmW]
    have hI : (2 * (ln.length : Int)) * (wy.length : Int) = ((2 * (ln.length * wy.length) : Nat) : Int) := by
      rw [Int.mul_assoc, Int.natCast_mul, Int.natCast_mul]
      rfl
    refine ⟨.inl ⟨by omega, by omega⟩, 2 * (ln.length : Int) * (wy.length : Int), 2, rfl, rfl, _, rfl, by rw [hI]; omega, by rw [hI]; omega, fun D hD => ?_⟩
    have hNn : (2 * (ln.length : Int) * (wy.length : Int) + 2).toNat = 2 * (ln.length * wy.length) + 2 := by rw [hI]; omega
    generalize hN : 2 * (ln.length * wy.length) + 2 = N at hNn
    have hD0 := sG2.free hD
    refine lc_it (walk_range (lo := 0) (n := (2 * (ln.length : Int) * (wy.length : Int) + 2).toNat)) (fun i G => Same G2 G ∧ ∃ rs : List Addr, G D = some (.lst (rs.map V.ref)) ∧ rs.length = i ∧ rs.Nodup ∧ ∀ r ∈ rs, G r = some (.lst []) ∧ r ≠ D ∧ G2 r = none)
      ⟨same_new hD, [], upd_same, rfl, List.nodup_nil, fun _ h => nomatch h⟩ (fun _ _ _ _ => trivial) (fun i x G G' hi p y => ?_) (fun G3 p => ?_)
    · obtain ⟨rfl, rfl⟩ := y
      obtain ⟨s3, rs, eD, lrs, nrs, er⟩ := p
      refine ⟨rfl, Nat.zero_le _, fun r hr' => ?_⟩
      have z1 := same_new (o := .lst []) hr'
      refine ⟨_, z1 _ _ eD, ?_, same_mut (s3.trans z1) hD, rs ++ [r], ?_, ?_, ?_, ?_⟩
      · rw [List.length_map, lrs]
        exact Nat.lt_of_lt_of_le (by omega : i < 100) (by decide)
      · rw [upd_same, List.map_append]
        rfl
      · rw [List.length_append, lrs]
        rfl
      · refine List.nodup_append.mpr ⟨nrs, by simp, fun x hx y hy e => ?_⟩
        obtain rfl := List.mem_singleton.mp hy
        subst e
        have := (er x hx).1
        rw [hr'] at this
        cases this
      · intro x hx
        rcases List.mem_append.mp hx with hx | hx
        · obtain ⟨h1, h2, h3⟩ := er x hx
          exact ⟨by rw [upd_ne h2]; exact z1 _ _ h1, h2, h3⟩
        · obtain rfl := List.mem_singleton.mp hx
          have nx : x ≠ D := fun z => by rw [z, eD] at hr'; cases hr'
          exact ⟨by rw [upd_ne nx]; exact upd_same, nx, s3.free hr'⟩
    rw [hNn] at p
    obtain ⟨s3, rs, eD, lrs, nrs, er⟩ := p
    have sG3 := sG2.trans s3
    have dn3 := dn2.same s3
    have dnf3 := dnf.same s3
    have led3 : ∀ T ∈ L, ∃ l xs, valN ks (kSt T) = some (.ref l) ∧ G2 l = some (.lst xs) ∧ ImAll G3 xs ((behinds ln wy T).map dSt) := fun T hT => by
      obtain ⟨l, zs, h1, h3, h4⟩ := led2 T hT
      exact ⟨l, zs, h1, h3, h4.mono (Ti.of s3)⟩
    have er1 : ∀ r ∈ rs, G3 r = some (.lst []) := fun r h => (er r h).1
    have rsH : ∀ r ∈ rs, H r = none := fun r h => sG2.free (er r h).2.2
    have rs2 : ∀ r ∈ rs, G2 r = none := fun r h => (er r h).2.2
    have rsD : ∀ r ∈ rs, r ≠ D := fun r h => (er r h).2.1
    have nDd : D ≠ d := fun z => by rw [z, dn2.at_] at hD; cases hD
    have nDf : D ≠ fd := fun z => by rw [z, dnf.at_] at hD; cases hD
    have rsd : ∀ r ∈ rs, r ≠ d := fun r h z => by have := rs2 r h; rw [z, dn2.at_] at this; cases this
    have rsf : ∀ r ∈ rs, r ≠ fd := fun r h z => by have := rs2 r h; rw [z, dnf.at_] at this; cases this
    clear er hD
    -- the stands put into rows
    refine ⟨d, _, dn3.at_, trivial, fun od => ?_⟩
    have sl : Same H (upd G3 d (.frz od (dNO P w d ks))) := same_mut sG3 hd
    have tiL : Ti G3 (upd G3 d (.frz od (dNO P w d ks))) := Ti.dict dn3.at_
    refine ⟨.ref d, rfl, d, od, ks, rfl, upd_same, ?_⟩
    refine for_it (walk_n (P := P) (w := w) (a := d) (o := od) (ks := ks) rfl) (fun i σ G => Same H G ∧ (∀ x o, G3 x = some o → x ≠ d → x ∉ rs → G x = some o) ∧ Ti G3 G ∧ G d = some (.frz od (dNO P w d ks)) ∧ (∀ (j : Nat) (r : Addr), rs[j]? = some r → ∃ xs, G r = some (.lst xs) ∧ ImAll G xs ((rowOf ln wy (L.take i) j).map dSt)) ∧ ∃ y5, σ = [some (.ref a), some (.ref b), some (.ref c), some (.ref d), some (.ref wa), y5, none, none, some (.ref fd), none, some (.ref D), none, none, none])
      ⟨sl, fun x o e hx _ => by rw [upd_ne hx]; exact e, tiL, upd_same, fun j r hr' => ⟨[], by rw [upd_ne (rsd r (mem_of_some hr'))]; exact er1 r (mem_of_some hr'), by rw [List.take_zero]; exact .nil⟩, y5, rfl⟩ (fun i σ G _ p => p.2.2.2.1) (fun i x σ G G' hi p y => ?_) (fun σ G p => ?_)
    · obtain ⟨sG, keep, ti, eG, rows, y5', rfl⟩ := p
      obtain ⟨rfl, e, ee, rfl⟩ := y
      obtain ⟨T, eT, ek⟩ := of_get of ee
      have hTL := mem_of_some eT
      have okT := (((mem T).mp hTL).ok ok)
      have key : KeyAt G' e.2.1 (kSt T) := by
        have := (dn3.keys e (mem_of_some ee)).mono ti
        rw [ek] at this
        exact this
      have hT : StandAt G' e.2.1 T := KeyAt.stand key
      generalize e.2.1 = h at key hT
      obtain ⟨us, eu, iu⟩ := id hT
      have lu := StandAt.len iu
      have eDG : G' D = some (.lst (rs.map V.ref)) := keep D _ eD nDd (fun hm => rsD D hm rfl)
      refine ⟨.ref D, rfl, .ref a, rfl, .ref b, rfl, .ref h, rfl, a, b, h, ln, wy, T, rfl, sG.seq hL, sG.seq hW, hT, okT.1, fun G5 s5 => ⟨2, _, rfl, rfl, .inl ⟨by decide, by decide⟩, ?_⟩⟩
      refine ⟨.ref h, rfl, h, rfl, ⟨us, (Ti.of s5 _ _ eu).sq⟩, fun D2 hD2 => ?_⟩
      refine lc_it (walk_tup (K := K) (a := h) (xs := us)) (fun j G6 => Same G5 G6 ∧ ∃ ac, G6 D2 = some (.lst ac) ∧ ac.length = (T.take j).countP isSide) ⟨same_new hD2, [], upd_same, by simp⟩ (fun j G6 _ p => (Ti.of (s5.trans p.1) _ _ eu).sq) (fun j x G6 G7 hj p y => ?_) (fun G6 p => ?_)
      · obtain ⟨rfl, ex⟩ := y
        obtain ⟨s6, ac, ea, la⟩ := p
        obtain ⟨pj, sj, rfl, esj, hsj⟩ := stand_getV iu ex
        obtain ⟨wd, rest, ev, ew⟩ := side_word sj
        have hs1 := Ti.of (s5.trans s6) _ _ hsj
        rw [ev] at hs1
        refine ⟨rfl, .ref pj, rfl, pj, _, 0, _, rfl, rfl, hs1.sq, at0, rfl, _, rfl, ?_⟩
        rw [ew, take_snoc esj, List.countP_append]
        by_cases hq : isSide sj = true
        · rw [hq]
          refine iteT ⟨.ref pj, rfl, ac, ea, ?_, same_mut s6 hD2, _, upd_same, ?_⟩
          · rw [la]
            have h1 : (T.take j).countP isSide ≤ (T.take j).length := List.countP_le_length
            rw [List.length_take] at h1
            exact Nat.lt_of_le_of_lt (by omega : _ ≤ 8) (by decide)
          · rw [List.length_append, la]
            simp [hq]
        · rw [Bool.eq_false_iff.mpr hq]
          refine iteF ⟨s6, ac, ea, ?_⟩
          rw [la]
          simp [hq]
      obtain ⟨s6, ac, ea, la⟩ := p
      rw [lu, List.take_length] at la
      have s56 := s5.trans s6
      have hw1 := weigh_left ln wy T okT.1.len
      have hw0 := weigh_least okT.1
      have hwb := weigh_bound (ln := ln) (wy := wy) okT.1.spot
      obtain ⟨k, hk⟩ : ∃ k : Nat, weigh ln wy T = k := ⟨_, (Int.toNat_of_nonneg hw0.1).symm⟩
      have kN : k < rs.length := by
        rw [lrs, ← hN]
        have z1 := hwb.2
        rw [hI, hk] at z1
        omega
      have ek2 : rs[k]? = some rs[k] := List.getElem?_eq_getElem kN
      generalize rs[k] = r at ek2
      have hrm : r ∈ rs := mem_of_some ek2
      obtain ⟨zs, ez, iz⟩ := rows k r ek2
      have hidx : (2 * leftOf ln wy T - (ac.length : Int)) = (k : Int) := by rw [la, ← hk, hw1]
      refine ⟨D2, ac, rfl, .inl (.inl (.inl ea)), _, _, rfl, rfl, D, _, (k : Int), .ref r, rfl, congrArg V.int hidx, .inl (.inl (s56 _ _ eDG)), atI_nat (by rw [List.getElem?_map, ek2]; rfl), .inl ⟨rfl, _, .inl (.inl (s56 _ _ ez))⟩, .ref h, rfl, r, zs, .ref h, rfl, rfl, s56 _ _ ez, ?_, ?_⟩
      · rw [iz.length, List.length_map]
        have h1 : (rowOf ln wy (L.take i) k).length ≤ (L.take i).length := List.length_filter_le ..
        rw [List.length_take] at h1
        exact Nat.lt_of_le_of_lt (by omega : _ ≤ 200000) (by decide)
      have tl := Ti.lst (o := .lst (zs ++ [.ref h])) (s56 _ _ ez)
      refine ⟨same_mut (sG.trans s56) (rsH r hrm), fun x o e hx hn => ?_, (ti.trans (Ti.of s56)).trans tl, ?_, fun j r' hr' => ?_, _, rfl⟩
      · rw [upd_ne (fun z => hn (by rw [z]; exact hrm))]
        exact s56 _ _ (keep x o e hx hn)
      · rw [upd_ne (fun z => rsd r hrm z.symm)]
        exact s56 _ _ eG
      · rw [take_snoc eT, rowOf_snoc]
        by_cases hjk : j = k
        · subst hjk
          rw [ek2] at hr'
          cases hr'
          refine ⟨_, upd_same, ?_⟩
          rw [if_pos hk, List.map_append]
          exact (iz.mono ((Ti.of s56).trans tl)).append (.cons ((hT.mono ((Ti.of s56).trans tl)).im) .nil)
        · have nr : r' ≠ r := fun z => by
            subst z
            have h1 : j < rs.length := by
              rcases Nat.lt_or_ge j rs.length with h | h
              · exact h
              · rw [List.getElem?_eq_none h] at hr'; cases hr'
            rw [List.getElem?_eq_getElem h1] at hr'
            rw [List.getElem?_eq_getElem kN] at ek2
            exact hjk ((List.getElem_inj nrs).mp (by rw [Option.some.inj hr', Option.some.inj ek2]))
          obtain ⟨xs', h1, h2⟩ := rows j r' hr'
          refine ⟨xs', by rw [upd_ne nr]; exact s56 _ _ h1, ?_⟩
          rw [if_neg (fun z => hjk (by rw [hk] at z; omega)), List.append_nil]
          exact h2.mono ((Ti.of s56).trans tl)
    obtain ⟨sG, keep, ti, eG, rows, y5', rfl⟩ := p
    refine ⟨eG, ?_⟩
    have s4 : Same H (upd G d (dNO P w d ks)) := same_mut sG hd
    have tiU : Ti G (upd G d (dNO P w d ks)) := fun x zs ⟨o, e1, e2⟩ => ⟨o, by rw [upd_ne (fun z => by rw [z, eG] at e1; cases e1)]; exact e1, e2⟩
    have ti4 := ti.trans tiU
    have kp : ∀ x o, G3 x = some o → x ≠ d → x ∉ rs → upd G d (dNO P w d ks) x = some o := fun x o e h1 h2 => by rw [upd_ne h1]; exact keep x o e h1 h2
    have dn4 : DN P w (upd G d (dNO P w d ks)) d ks := ⟨upd_same, fun x hx => (dn3.keys x hx).mono ti4⟩
    have dnf4 : DN P w (upd G d (dNO P w d ks)) fd [] := ⟨kp _ _ dnf3.at_ nfd (fun h => rsf fd h rfl), fun _ h => nomatch h⟩
    have eD4 : upd G d (dNO P w d ks) D = some (.lst (rs.map V.ref)) := kp _ _ eD nDd (fun h => rsD D h rfl)
    have tkL : L.take ks.length = L := by rw [of.len, List.take_length]
    have rows4 : ∀ (j : Nat) (r : Addr), rs[j]? = some r → ∃ xs, upd G d (dNO P w d ks) r = some (.lst xs) ∧ ImAll (upd G d (dNO P w d ks)) xs ((rowOf ln wy L j).map dSt) := fun j r hr' => by
      obtain ⟨zs, h1, h2⟩ := rows j r hr'
      rw [tkL] at h2
      exact ⟨zs, by rw [upd_ne (rsd r (mem_of_some hr'))]; exact h1, h2.mono tiU⟩
    have led4 : ∀ T ∈ L, ∃ l xs, valN ks (kSt T) = some (.ref l) ∧ l ≠ fd ∧ upd G d (dNO P w d ks) l = some (.lst xs) ∧ ImAll (upd G d (dNO P w d ks)) xs ((behinds ln wy T).map dSt) := fun T hT => by
      obtain ⟨l, zs, h1, h3, h4⟩ := led3 T hT
      refine ⟨l, zs, h1, (fun z => by rw [z, dnf.at_] at h3; cases h3), kp _ _ (s3 _ _ h3) (fun z => by rw [z, dn2.at_] at h3; cases h3) (fun hm => by rw [rs2 l hm] at h3; cases h3), h4.mono ti4⟩
    generalize upd G d (dNO P w d ks) = G4 at s4 ti4 dn4 dnf4 eD4 rows4 led4
    clear keep rows eG kp tiU sG ti led3 sl tiL
    -- row by row
    refine ⟨.ref D, rfl, D, rfl, ⟨_, .inl (.inl eD4)⟩, ?_⟩
    refine for_it (walk_list (K := K) (a := D) (xs := rs.map V.ref)) (fun j σ G => Same H G ∧ (∀ x o, G4 x = some o → x ≠ fd → G x = some o) ∧ Ti G4 G ∧ (∃ ks', DN P w G fd ks' ∧ Of ks' (doneOf ln wy L j) ∧ ∀ T ∈ doneOf ln wy L j, valN ks' (kSt T) = some (vPrice (priceOf ln wy T))) ∧ ∃ y5 y12 y13, σ = [some (.ref a), some (.ref b), some (.ref c), some (.ref d), some (.ref wa), y5, none, none, some (.ref fd), none, some (.ref D), none, y12, y13])
      ⟨s4, fun _ _ e _ => e, Ti.refl _, ⟨[], dnf4, rfl, fun _ h => nomatch h⟩, _, none, none, rfl⟩ (fun j σ G _ p => .inl (.inl (p.2.1 _ _ eD4 nDf))) (fun j x σ G G' hj p y => ?_) (fun σ G p => ?_)
    · obtain ⟨sG, keep, ti, ⟨ks', dk, of', vals⟩, y5, y12, y13, rfl⟩ := p
      obtain ⟨rfl, ex⟩ := y
      rw [List.getElem?_map] at ex
      cases er' : rs[j]? with
      | none => rw [er'] at ex; cases ex
      | some r =>
      rw [er'] at ex
      cases ex
      have hrm := mem_of_some er'
      obtain ⟨zs, ez, iz⟩ := rows4 j r er'
      have lz : zs.length = (rowOf ln wy L j).length := by rw [iz.length, List.length_map]
      refine ⟨.ref r, rfl, r, rfl, ⟨_, .inl (.inl (keep _ _ ez (rsf r hrm)))⟩, ?_⟩
      refine for_it (walk_list (K := K) (a := r) (xs := zs)) (fun i σ G => Same H G ∧ (∀ x o, G4 x = some o → x ≠ fd → G x = some o) ∧ Ti G4 G ∧ (∃ ks', DN P w G fd ks' ∧ Of ks' (doneOf ln wy L j ++ (rowOf ln wy L j).take i) ∧ ∀ T ∈ doneOf ln wy L j ++ (rowOf ln wy L j).take i, valN ks' (kSt T) = some (vPrice (priceOf ln wy T))) ∧ ∃ y5 y13, σ = [some (.ref a), some (.ref b), some (.ref c), some (.ref d), some (.ref wa), y5, none, none, some (.ref fd), none, some (.ref D), none, some (.ref r), y13])
        ⟨sG, keep, ti, ⟨ks', dk, by rw [List.take_zero, List.append_nil]; exact of', by rw [List.take_zero, List.append_nil]; exact vals⟩, _, _, rfl⟩ (fun i σ G _ p => .inl (.inl (p.2.1 _ _ ez (rsf r hrm)))) (fun i x σ G W hi p y => ?_) (fun σ G p => ?_)
      · clear sG keep ti dk of' vals ks'
        obtain ⟨sG, keep, ti, ⟨ks', dk, of', vals⟩, y5, y13, rfl⟩ := p
        obtain ⟨rfl, ex⟩ := y
        obtain ⟨dd, edd, imd⟩ := iz.getV ex
        rw [List.getElem?_map] at edd
        cases eT : (rowOf ln wy L j)[i]? with
        | none => rw [eT] at edd; cases edd
        | some T =>
        rw [eT] at edd
        cases edd
        obtain ⟨h, rfl, hT⟩ := im_standAt (imd.mono ti)
        have hTr := mem_of_some eT
        obtain ⟨hTL, hTw⟩ := rowOf_mem.mp hTr
        have okT := (((mem T).mp hTL).ok ok)
        have ndA : (doneOf ln wy L j ++ (rowOf ln wy L j).take (i + 1)).Nodup := by
          have z := doneOf_nodup (ln := ln) (wy := wy) nd (j + 1)
          rw [doneOf_succ] at z
          exact z.sublist (List.Sublist.append_left (List.take_sublist _ _) _)
        rw [take_snoc eT, ← List.append_assoc] at ndA
        have hTn : T ∉ doneOf ln wy L j ++ (rowOf ln wy L j).take i := fun hm => (List.nodup_append.mp ndA).2.2 T hm T (List.mem_singleton.mpr rfl) rfl
        have lenD : (doneOf ln wy L j ++ (rowOf ln wy L j).take i).length ≤ 200000 := by
          have z := (List.nodup_append.mp ndA).1
          have sub : ∀ U ∈ doneOf ln wy L j ++ (rowOf ln wy L j).take i, U ∈ L := fun U hU => by
            rcases List.mem_append.mp hU with hU | hU
            · obtain ⟨q, hq, hU⟩ := List.mem_flatMap.mp hU
              exact (rowOf_mem.mp hU).1
            · exact (rowOf_mem.mp (List.mem_of_mem_take hU)).1
          exact Nat.le_trans (stands_few z fun U hU => ⟨(((mem U).mp (sub U hU)).ok ok).2, (((mem U).mp (sub U hU)).ok ok).1.spot⟩) few
        obtain ⟨l, ls, hv, nlf, el, il⟩ := led4 T hTL
        have elG := keep _ _ el nlf
        have ilG := il.mono ti
        have dnG : DN P w W d ks := ⟨keep _ _ dn4.at_ (fun z => nfd z.symm), fun x hx => (dn4.keys x hx).mono ti⟩
        have key := hT.key
        have lls : ls.length = (behinds ln wy T).length := by rw [il.length, List.length_map]
        have lb : (behinds ln wy T).length ≤ 12 := by
          have z := behinds_len ln wy T
          rw [okT.2] at z
          omega
        have nx : ∀ U ∈ behinds ln wy T, U ∈ doneOf ln wy L j ++ (rowOf ln wy L j).take i := fun U hU => by
          have hUr : Reach ln wy S U := ((mem T).mp hTL).on hU
          have hU0 := (weigh_least (hUr.ok ok).1).1
          have hUw := weigh_behinds okT.1 hU
          exact List.mem_append.mpr (.inl ((doneOf_mem hU0).mpr ⟨(mem U).mpr hUr, by omega⟩))
        have pe := price_eq okT.1
        generalize hl0 : (behinds ln wy T).map (priceOf ln wy) = l0 at pe
        have ll0 : l0.length = (behinds ln wy T).length := by rw [← hl0, List.length_map]
        refine ⟨.ref d, rfl, .ref h, rfl, d, h, ks, kSt T, ⟨rfl, rfl⟩, ⟨dnG.rd, key⟩, .ref l, hv, l, rfl, ⟨_, .inl (.inl elG)⟩, fun D3 hD3 => ?_⟩
        refine lc_it (walk_list (K := K) (a := l) (xs := ls)) (fun q G5 => Same W G5 ∧ G5 D3 = some (.lst ((costs (l0.take q)).map fun n : Nat => V.int n))) ⟨same_new hD3, upd_same⟩ (fun q G5 _ p => .inl (.inl (p.1 _ _ elG))) (fun q x G5 G6 hq p y => ?_) (fun G9 p => ?_)
        · obtain ⟨s9, e9⟩ := p
          obtain ⟨rfl, ex⟩ := y
          obtain ⟨dv, ed, iv⟩ := ilG.getV ex
          rw [List.getElem?_map] at ed
          cases eU : (behinds ln wy T)[q]? with
          | none => rw [eU] at ed; cases ed
          | some U =>
          rw [eU] at ed
          cases ed
          obtain ⟨pu, rfl, hpu⟩ := im_standAt (iv.mono (Ti.of s9))
          have vU := vals U (nx U (mem_of_some eU))
          have elj : l0[q]? = some (priceOf ln wy U) := by rw [← hl0, List.getElem?_map, eU]; rfl
          have drk := (dk.same s9).rd
          refine ⟨rfl, .ref fd, rfl, .ref pu, rfl, fd, pu, ks', kSt U, ⟨rfl, rfl⟩, ⟨drk, hpu.key⟩, _, vU, rfl, _, rfl, ?_⟩
          rw [costs_snoc elj]
          cases hp : priceOf ln wy U with
          | none =>
            refine iteF' (by simp [vPrice]) ?_
            show Same _ G6 ∧ G6 D3 = some (.lst ((costs (l0.take q) ++ []).map fun n : Nat => V.int n))
            rw [List.append_nil]
            exact ⟨s9, e9⟩
          | some n =>
            rw [hp] at vU
            refine iteT' (by simp [vPrice]) ⟨.ref fd, rfl, .ref pu, rfl, fd, pu, ks', kSt U, ⟨rfl, rfl⟩, ⟨drk, hpu.key⟩, _, vU, _, e9, ?_, same_mut s9 hD3, ?_⟩
            · have : (costs (l0.take q)).length ≤ (l0.take q).length := List.length_filterMap_le ..
              rw [List.length_take] at this
              rw [List.length_map]
              exact Nat.lt_of_le_of_lt (by omega : _ ≤ 12) (by decide)
            · rw [upd_same, List.map_append]
              rfl
        obtain ⟨s9, e9⟩ := p
        rw [List.take_of_length_le (by omega)] at e9
        have lint : (costs l0).map (fun n : Nat => V.int n) = ((costs l0).map (fun n : Nat => (n : Int))).map V.int := by rw [List.map_map]; rfl
        rw [lint] at e9
        have sG9 := sG.trans s9
        have dk9 := dk.same s9
        have key9 := key.mono (Ti.of s9)
        -- what is put there
        refine ⟨fun σ G => Same H G ∧ (∀ x o, G4 x = some o → x ≠ fd → G x = some o) ∧ Ti G4 G ∧ StandAt G h T ∧ (∃ ks'', DN P w G fd ks'' ∧ Of ks'' ((doneOf ln wy L j ++ (rowOf ln wy L j).take i) ++ [T]) ∧ (∀ U ∈ doneOf ln wy L j ++ (rowOf ln wy L j).take i, valN ks'' (kSt U) = some (vPrice (priceOf ln wy U))) ∧ valN ks'' (kSt T) = some (vPrice ((least l0).map (· + 1)))) ∧ ∃ y13, σ = [some (.ref a), some (.ref b), some (.ref c), some (.ref d), some (.ref wa), some (.ref h), none, none, some (.ref fd), none, some (.ref D), none, some (.ref r), y13], ?_, fun σ G m => ?_⟩
        · -- its price
          have put : ∀ (v1 : V) (Gz : Hp), v1 = vPrice ((least l0).map (· + 1)) → Same W Gz → DN P w Gz fd ks' → KeyAt Gz h (kSt T) → (ks'.length < sizeLine) ∧ (Same H (upd Gz fd (dNO P w fd (putN ks' (kSt T) h v1))) ∧ (∀ x o, G4 x = some o → x ≠ fd → upd Gz fd (dNO P w fd (putN ks' (kSt T) h v1)) x = some o) ∧ Ti G4 (upd Gz fd (dNO P w fd (putN ks' (kSt T) h v1))) ∧ StandAt (upd Gz fd (dNO P w fd (putN ks' (kSt T) h v1))) h T ∧ (∃ ks'', DN P w (upd Gz fd (dNO P w fd (putN ks' (kSt T) h v1))) fd ks'' ∧ Of ks'' ((doneOf ln wy L j ++ (rowOf ln wy L j).take i) ++ [T]) ∧ (∀ U ∈ doneOf ln wy L j ++ (rowOf ln wy L j).take i, valN ks'' (kSt U) = some (vPrice (priceOf ln wy U))) ∧ valN ks'' (kSt T) = some (vPrice ((least l0).map (· + 1))))) := fun v1 Gz ev sz dz kz => by
            have td := Ti.dict (u := dNO P w fd (putN ks' (kSt T) h v1)) dz.at_
            refine ⟨by rw [of'.len]; exact Nat.lt_of_le_of_lt lenD (by decide), same_mut (sG.trans sz) hfd0, fun x o e hx => by rw [upd_ne hx]; exact sz _ _ (keep x o e hx), (ti.trans (Ti.of sz)).trans td, (hT.mono (Ti.of sz)).mono td, _, dz.put v1 kz, of'.put hTn h v1, fun U hU => ?_, by rw [val_put, if_pos rfl, ev]⟩
            rw [val_put, if_neg (fun z => hTn (by rw [← kSt_inj z]; exact hU))]
            exact vals U hU
          refine ⟨.ref D3, rfl, Nat.zero_le _, fun e2 he2 => ?_⟩
          have sA := same_new (o := .lst []) he2
          refine ⟨.list (((costs l0).map (fun n : Nat => (n : Int))).map PyData.int), .list [], .lst (.inl (.inl (sA _ _ e9))) (im_ints _).dp, .lst (.inl (.inl upd_same)) .nil, shaped_ints _, rfl, _, rfl, ?_⟩
          rw [eqv_ints]
          have s9A := s9.trans sA
          have dkA := dk9.same sA
          have keyA := key9.mono (Ti.of sA)
          cases hc : costs l0 with
          | nil =>
            refine iteF' rfl ?_
            obtain ⟨z1, z2⟩ := put .non _ (by rw [costs_none hc]; rfl) s9A dkA keyA
            exact ⟨.ref fd, rfl, .ref h, rfl, fd, h, ks', kSt T, ⟨rfl, rfl⟩, ⟨dkA, keyA⟩, z1, z2.1, z2.2.1, z2.2.2.1, z2.2.2.2.1, z2.2.2.2.2, _, rfl⟩
          | cons n0 ns0 =>
            refine iteT' rfl ?_
            refine ⟨.ref D3, rfl, D3, (costs l0).map (fun n : Nat => (n : Int)), rfl, .inl (.inl (sA _ _ e9)), by rw [hc]; simp, fun m hm1 hm2 => ⟨_, _, rfl, rfl, ?_⟩⟩
            obtain ⟨n, rfl, hn'⟩ := costs_least hm1 hm2
            obtain ⟨z1, z2⟩ := put (.int ((n : Int) + 1)) _ (by rw [hn']; rfl) s9A dkA keyA
            exact ⟨.ref fd, rfl, .ref h, rfl, fd, h, ks', kSt T, ⟨rfl, rfl⟩, ⟨dkA, keyA⟩, z1, z2.1, z2.2.1, z2.2.2.1, z2.2.2.2.1, z2.2.2.2.2, _, rfl⟩
        clear sG keep ti dk of' vals s9 e9 sG9 dk9 key9 key hT dnG elG ilG hD3
        obtain ⟨sG, keep, ti, hT, ⟨ks'', dk, of', vals, vT⟩, y13', rfl⟩ := m
        obtain ⟨us, eu, iu⟩ := id hT
        have lu := StandAt.len iu
        have z6 := stand_size okT.1 iu
        refine ⟨.ref h, rfl, h, rfl, ⟨us, eu.sq⟩, fun D4 hD4 => ?_⟩
        refine lc_it (walk_tup (K := K) (a := h) (xs := us)) (fun j G1 => Same G G1 ∧ ∃ ac, G1 D4 = some (.lst ac) ∧ ImAll G1 ac ((still (T.take j)).map dS)) ⟨same_new hD4, [], upd_same, by simp [still]; exact .nil⟩ (fun j G1 _ p => (Ti.of p.1 _ _ eu).sq) (fun j x G1 G2 hj p y => ?_) (fun G1 p => ?_)
        · obtain ⟨rfl, ex⟩ := y
          obtain ⟨s1, ac, ea, ia⟩ := p
          obtain ⟨pj, sj, rfl, esj, hsj⟩ := stand_getV iu ex
          obtain ⟨wd, rest, ev, ew⟩ := word_out sj
          have hs1 := Ti.of s1 _ _ hsj
          rw [ev] at hs1
          refine ⟨rfl, .ref pj, rfl, pj, _, 0, _, rfl, rfl, hs1.sq, at0, rfl, _, rfl, ?_⟩
          rw [ew, take_snoc esj, still_snoc]
          have lac : ac.length ≤ 8 := by
            have h1 := ia.length
            rw [List.length_map] at h1
            have h2 : (still (T.take j)).length ≤ (T.take j).length := List.length_filter_le ..
            rw [List.length_take] at h2
            omega
          by_cases hq : sj = .out
          · rw [if_pos hq, decide_eq_true hq]
            exact iteF ⟨s1, ac, ea, ia⟩
          · rw [if_neg hq, decide_eq_false hq]
            have tl := Ti.lst (o := .lst (ac ++ [.ref pj])) ea
            refine iteT ⟨.ref pj, rfl, ac, ea, Nat.lt_of_le_of_lt lac (by decide), same_mut s1 hD4, _, upd_same, ?_⟩
            rw [List.map_append]
            exact (ia.mono tl).append (.cons (SpotAt.im (tl _ _ (Ti.of s1 _ _ hsj))) .nil)
        obtain ⟨s1, ac, ea, ia⟩ := p
        rw [List.take_of_length_le (by omega)] at ia
        refine ⟨Nat.zero_le _, fun e0 he0 => ?_⟩
        have s2 := same_new (o := .lst []) he0
        refine ⟨.list ((still T).map dS), .list [], .lst (.inl (.inl (s2 _ _ ea))) (ia.mono (Ti.of s2)).dp, .lst (.inl (.inl upd_same)) .nil, shaped_spots _, rfl, _, rfl, ?_⟩
        rw [eqv_still, still_empty]
        have s12 := s1.trans s2
        have dk2 := dk.same s12
        have key2 : KeyAt _ h (kSt T) := hT.key.mono (Ti.of s12)
        have hT2 := hT.mono (Ti.of s12)
        have sG2' := sG.trans s12
        have tkI : (rowOf ln wy L j).take (i + 1) = (rowOf ln wy L j).take i ++ [T] := take_snoc eT
        refine ite2 (fun ho => ?_) (fun ho => ?_)
        · rw [if_pos ho] at pe
          have td := Ti.dict (u := dNO P w fd (putN ks'' (kSt T) h (.int 0))) dk2.at_
          refine ⟨.ref fd, rfl, .ref h, rfl, fd, h, ks'', kSt T, ⟨rfl, rfl⟩, ⟨dk2, key2⟩, ?_, same_mut sG2' hfd0, fun x o e hx => by rw [upd_ne hx]; exact s12 _ _ (keep x o e hx), (ti.trans (Ti.of s12)).trans td, ⟨_, dk2.put (.int 0) key2, ?_, fun U hU => ?_⟩, _, _, rfl⟩
          · rw [of'.len, List.length_append, List.length_singleton]
            exact Nat.lt_of_le_of_lt (by omega : _ ≤ 200001) (by decide)
          · rw [tkI, ← List.append_assoc]
            exact of'.put_old (by simp) h (.int 0)
          · rw [tkI, ← List.append_assoc] at hU
            rcases List.mem_append.mp hU with hU | hU
            · rw [val_put, if_neg (fun z => hTn (by rw [← kSt_inj z]; exact hU))]
              exact vals U hU
            · obtain rfl := List.mem_singleton.mp hU
              rw [val_put, if_pos rfl, pe]
              rfl
        · rw [if_neg ho] at pe
          refine ⟨sG2', fun x o e hx => s12 _ _ (keep x o e hx), ti.trans (Ti.of s12), ⟨ks'', dk2, by rw [tkI, ← List.append_assoc]; exact of', fun U hU => ?_⟩, _, _, rfl⟩
          rw [tkI, ← List.append_assoc] at hU
          rcases List.mem_append.mp hU with hU | hU
          · exact vals U hU
          · obtain rfl := List.mem_singleton.mp hU
            rw [pe]
            exact vT
      · obtain ⟨sG, keep, ti, ⟨ks', dk, of', vals⟩, y5, y13, rfl⟩ := p
        rw [lz, List.take_length, ← doneOf_succ] at of' vals
        exact ⟨sG, keep, ti, ⟨ks', dk, of', vals⟩, _, _, _, rfl⟩
    · obtain ⟨sG, keep, ti, ⟨ks', dk, of', vals⟩, y5, y12, y13, rfl⟩ := p
      rw [List.length_map, lrs] at of' vals
      refine ⟨.ref fd, rfl, q G fd ks' _ sG hfd0 ⟨dk, of', doneOf_nodup nd N, fun T => ?_, vals⟩⟩
      constructor
      · intro hT
        obtain ⟨q', hq, hT⟩ := List.mem_flatMap.mp hT
        exact (mem T).mp (rowOf_mem.mp hT).1
      · intro hT
        have okT := (hT.ok ok)
        have hw0 := (weigh_least okT.1).1
        refine (doneOf_mem hw0).mpr ⟨(mem T).mpr hT, ?_⟩
        have z1 := (weigh_bound (ln := ln) (wy := wy) okT.1.spot).2
        rw [hI] at z1
        omega
  rw [List.concat_eq_append] at hWc
  subst hWc
  rw [show (rest ++ [t]).isEmpty = false by cases rest <;> rfl]
  refine iteT ⟨_, fun σ' H' n => n, ?_⟩
  -- the last one is taken out
  have lx : xs.length = rest.length + 1 := by rw [lw, List.length_append]; rfl
  obtain ⟨v, ev, iv⟩ := iw.get (i := rest.length) (d := dSt t) (by simp)
  obtain ⟨p, rfl, hp⟩ := im_standAt iv
  have ed : xs.dropLast = xs.take rest.length := by rw [List.dropLast_eq_take, lx]; rfl
  have ir : ImAll G (xs.take rest.length) (rest.map dSt) := by
    have z := iw.take rest.length
    have e1 : rest.length = (rest.map dSt).length := (List.length_map ..).symm
    rw [List.map_append, List.take_append_of_le_length (Nat.le_of_eq e1), List.take_of_length_le (Nat.le_of_eq e1.symm)] at z
    exact z
  refine ⟨.ref wa, rfl, .inl ⟨rfl, _, .inl (.inl (sE _ _ ew))⟩, wa, xs, .ref p, rfl, rfl, sE _ _ ew, by rw [lx]; exact ev, ?_⟩
  rw [ed]
  have dn1 := (dn.same sE).lst (ys := xs.take rest.length) (sE _ _ ew)
  have tl := (Ti.of sE).trans (Ti.lst (o := .lst (xs.take rest.length)) (sE _ _ ew))
  have s3 := same_mut (o := .lst (xs.take rest.length)) (sG.trans sE) hwa
  have ew1 : upd (upd G e (.lst [])) wa (.lst (xs.take rest.length)) wa = some (.lst (xs.take rest.length)) := upd_same
  have led1 : ∀ T ∈ L, LedAt (upd (upd G e (.lst [])) wa (.lst (xs.take rest.length))) wa ln wy ks T := fun T hT => by
    obtain ⟨l, zs, h1, h2, h3, h4⟩ := led T hT
    exact ⟨l, zs, h1, h2, by rw [upd_ne h2]; exact sE _ _ h3, h4.mono tl⟩
  generalize upd (upd G e (.lst [])) wa (.lst (xs.take rest.length)) = G1 at dn1 tl s3 ew1 led1
  have hp1 := hp.mono tl
  have ir1 := ir.mono tl
  have lr : (xs.take rest.length).length = rest.length := by rw [List.length_take, lx]; omega
  -- known already, or new
  refine ⟨.ref p, rfl, .ref d, rfl, d, p, ks, kSt t, ⟨rfl, rfl⟩, ⟨dn1.rd, hp1.key⟩, _, rfl, ?_⟩
  rw [of.mem]
  by_cases ht : t ∈ L
  · rw [decide_eq_true ht]
    refine iteF ⟨_, ?_, wa, ks, L, rest, _, _, ⟨s3, hwa⟩, ⟨ew1, ir1⟩, ⟨dn1, of⟩, se.old ht, ?_, led1, rfl, rfl⟩
    · rw [hm, List.length_append]
      simp
    · rw [List.length_append] at hn
      omega
  rw [decide_eq_false ht]
  have se2 := se.new ht
  have few2 := se2.few ok
  have l2 : (L ++ [t]).length = L.length + 1 := by simp
  rw [l2] at few2
  have okt := (se.waitOk t (by simp)).ok ok
  refine iteT ⟨.ref a, rfl, .ref b, rfl, .ref p, rfl, a, b, p, ln, wy, t, rfl, s3.seq hL, s3.seq hW, hp1, okt.1, fun G3 ml ms s5 hml eml iml => ⟨ml, rfl, ⟨_, .inl (.inl eml)⟩, fun D hD => ?_⟩⟩
  have lm : ms.length = (allPairs ln wy t).length := by rw [iml.length, List.length_map]
  have lb : (allPairs ln wy t).length ≤ 12 := by
    have z := behinds_len ln wy t
    rw [okt.2] at z
    have z2 : (behinds ln wy t).length = (allPairs ln wy t).length := List.length_map ..
    omega
  refine lc_map (walk_list (K := K) (a := ml) (xs := ms)) (fun i y G' => ∃ c, (allPairs ln wy t)[i]? = some c ∧ Im G' y (dSt (t.set c.1.2 c.2))) (fun i y G' G'' tt e => by obtain ⟨c, h1, h2⟩ := e; exact ⟨c, h1, h2.mono tt⟩) (Nat.lt_of_le_of_lt (by omega : _ ≤ 12) (by decide)) hD (fun G' s => .inl (.inl (s _ _ eml)))
    (fun i x G4 G5 k hi s6 y hk => ?_) (fun G4 ys s6 e6 l6 el => ?_)
  · obtain ⟨rfl, ex⟩ := y
    obtain ⟨dd, edd, imd⟩ := iml.getV ex
    rw [List.getElem?_map] at edd
    cases ec : (allPairs ln wy t)[i]? with
    | none => rw [ec] at edd; cases edd
    | some c =>
      rw [ec] at edd
      cases edd
      obtain ⟨pt, u1, u2, rfl, tt, i1, i2⟩ := im_pair (Im.mono (Ti.of s6) imd)
      exact ⟨pt, _, rfl, tt.sq, rfl, _, _, rfl, _, _, rfl, rfl, rfl, u2, rfl, hk u2 G5 (Same.refl _) ⟨c, ec, i2⟩⟩
  have s56 := s5.trans s6
  have ib : ImAll G4 ys ((behinds ln wy t).map dSt) := by
    refine ImAll.of (by rw [l6, lm]; simp [behinds]) fun i v dv hv hdv => ?_
    obtain ⟨c, hc, him⟩ := el i v hv
    rw [behinds, List.map_map, List.getElem?_map, hc] at hdv
    cases hdv
    exact him
  have lb2 : (behinds ln wy t).length = (allPairs ln wy t).length := List.length_map ..
  have dn4 := dn1.same s56
  have hp4 := hp1.mono (Ti.of s56)
  have s4 := s3.trans s56
  refine ⟨.ref d, rfl, .ref p, rfl, d, p, ks, kSt t, ⟨rfl, rfl⟩, ⟨dn4, hp4.key⟩, ?_, ?_⟩
  · rw [of.len]
    exact Nat.lt_of_le_of_lt (by omega : _ ≤ 200000) (by decide)
  have dn2 := dn4.put (.ref D) hp4.key
  have tl2 := Ti.dict (u := dNO P w d (putN ks (kSt t) p (.ref D))) dn4.at_
  have s5' := same_mut (o := dNO P w d (putN ks (kSt t) p (.ref D))) s4 hd
  have of2 := of.put ht p (.ref D)
  have nDwa : D ≠ wa := fun z => by rw [z, s5 _ _ ew1] at hD; cases hD
  have nDd : D ≠ d := fun z => by rw [z, (dn1.same s5).at_] at hD; cases hD
  have nwd : wa ≠ d := fun z => by rw [z, dn1.at_] at ew1; cases ew1
  have ewT : upd G4 d (dNO P w d (putN ks (kSt t) p (.ref D))) wa = some (.lst (xs.take rest.length)) := by
    rw [upd_ne nwd]
    exact s56 _ _ ew1
  have eDT : upd G4 d (dNO P w d (putN ks (kSt t) p (.ref D))) D = some (.lst ys) := by
    rw [upd_ne nDd]
    exact e6
  have led2 : ∀ U ∈ L ++ [t], LedAt (upd G4 d (dNO P w d (putN ks (kSt t) p (.ref D)))) wa ln wy (putN ks (kSt t) p (.ref D)) U := fun U hU => by
    rcases List.mem_append.mp hU with hU | hU
    · obtain ⟨l, zs, h1, h2, h3, h4⟩ := led1 U hU
      refine ⟨l, zs, ?_, h2, ?_, (h4.mono (Ti.of s56)).mono tl2⟩
      · rw [val_put, if_neg (fun z => ht (by rw [← kSt_inj z]; exact hU))]
        exact h1
      · rw [upd_ne (fun z => by rw [z, dn1.at_] at h3; cases h3)]
        exact s56 _ _ h3
    · obtain rfl := List.mem_singleton.mp hU
      exact ⟨D, ys, by rw [val_put, if_pos rfl], nDwa, eDT, ib.mono tl2⟩
  have ib2 := ib.mono tl2
  have ir2 := (ir1.mono (Ti.of s56)).mono tl2
  have hp5 := hp4.mono tl2
  generalize upd G4 d (dNO P w d (putN ks (kSt t) p (.ref D))) = G5 at dn2 s5' ewT eDT led2 ib2 ir2 hp5
  rw [List.length_append, List.length_singleton] at hn
  refine ⟨.ref wa, rfl, .ref d, rfl, .ref p, rfl, d, p, _, kSt t, ⟨rfl, rfl⟩, ⟨dn2.rd, hp5.key⟩, .ref D, by rw [val_put, if_pos rfl], ?_⟩
  refine ⟨wa, D, _, ys, rfl, rfl, ewT, eDT, ?_, fun wb hwb => ?_⟩
  · rw [lr, l6, lm]
    exact Nat.le_of_lt (Nat.lt_of_le_of_lt (by omega : _ ≤ 3000000) (by decide))
  have s7 := same_new (o := .lst (xs.take rest.length ++ ys)) hwb
  refine ⟨_, ?_, wb, _, L ++ [t], rest ++ behinds ln wy t, _, _, ⟨s5'.trans s7, s5'.free hwb⟩, ⟨upd_same, ?_⟩, ⟨dn2.same s7, of2⟩, se2, ?_, fun U hU => ?_, rfl, rfl⟩
  · rw [hm, l2, List.length_append, List.length_append, List.length_singleton]
    omega
  · rw [List.map_append]
    exact (ir2.append ib2).mono (Ti.of s7)
  · rw [l2, List.length_append]
    omega
  · obtain ⟨l, zs, h1, h2, h3, h4⟩ := led2 U hU
    exact ⟨l, zs, h1, (fun z => by rw [z, hwb] at h3; cases h3), s7 _ _ h3, h4.mono (Ti.of s7)⟩
end
end Slx

set_option Elab.async false
set_option linter.all false
set_option maxRecDepth 100000
set_option maxHeartbeats 4000000
namespace Slx
open PySem PySem.Spec PyProof.Rows L2 Sl
/-! ### what the law keeps of a yard -/
/-- what was refused last -/
inductive RefOk (M : List Addr) (H : Hp) : V → Prop
  | non : RefOk M H .non
  | lst {l : Addr} {xs : List V} : H l = some (.lst xs) → l ∉ M → RefOk M H (.ref l)
  | int {p : Addr} {wd : Str} {i : Int} : TupAt H p [.str wd, .int i] → RefOk M H (.ref p)
  | bl {p : Addr} {wd : Str} {b : Bool} : TupAt H p [.str wd, .bl b] → RefOk M H (.ref p)
  | inner {p l : Addr} {wd : Str} {xs : List V} : TupAt H p [.str wd, .ref l] → H l = some (.lst xs) → l ∉ M → RefOk M H (.ref p)
theorem RefOk.keep {M Z : List Addr} {H H' : Hp} {v : V} (k : Keep Z H H') (t : Ti H H') (z : ∀ a ∈ Z, a ∈ M) (h : RefOk M H v) : RefOk M H' v := by
  cases h with
  | non => exact .non
  | lst e n => exact .lst (k.1 _ _ e fun m => n (z _ m)) n
  | int e => exact .int (t _ _ e)
  | bl e => exact .bl (t _ _ e)
  | inner e e2 n => exact .inner (t _ _ e) (k.1 _ _ e2 fun m => n (z _ m)) n
theorem YAt.keep {CY : Addr} {M Z : List Addr} {H H' : Hp} {p l1 : Addr} {ln : List Int} {wy : List Bool} {S : Stand} {sh : Option (List Int)} (k : Keep Z H H') (t : Ti H H') (z : ∀ a ∈ Z, a ∈ M) (hp' : p ∉ Z) (hl : l1 ∉ Z) (h : YAt CY M H p l1 ln wy S sh) : YAt CY M H' p l1 ln wy S sh := by
  obtain ⟨dx, l2, c, shv, hp, h1, ⟨h2, n2⟩, hS, hsh⟩ := h
  refine ⟨dx, l2, c, shv, k.1 _ _ hp hp', k.1 _ _ h1 hl, ⟨k.1 _ _ h2 fun m => n2 (z _ m), n2⟩, hS.mono t, ?_⟩
  cases sh with
  | none => exact hsh
  | some ln0 =>
    obtain ⟨l3, e, h3, n3⟩ := hsh
    exact ⟨l3, e, k.1 _ _ h3 fun m => n3 (z _ m), n3⟩
theorem KnownD.keep {P : Program} {w : World} {ln : List Int} {wy : List Bool} {S : Stand} {Z : List Addr} {H H' : Hp} {d : Addr} {ks : List Ent} {L : List Stand} (k : Keep Z H H') (t : Ti H H') (n : d ∉ Z) (h : KnownD P w ln wy S H d ks L) : KnownD P w ln wy S H' d ks L :=
  ⟨⟨k.1 _ _ h.dn.at_ n, fun x hx => (h.dn.keys x hx).mono t⟩, h.of, h.nodup, h.mem, h.val⟩
/-- the law's own dict at o, its lane's list at lo, with what was gained and what was refused last -/
structure OAt (P : Program) (w : World) (M : List Addr) (H : Hp) (o lo : Addr) (ln : List Int) (wy : List Bool) (S : Stand) (g : Int) (rf : V) (kvs : List (Key × V)) (wo so kd : Addr) (ks : List Ent) (L : List Stand) : Prop where
  at_ : H o = some (.dK kvs)
  len : kvs.length ≤ 7
  lane : valV kvs (.inr "lane") = some (.ref lo)
  ways : valV kvs (.inr "ways") = some (.ref wo)
  stand : valV kvs (.inr "stand") = some (.ref so)
  gained : valV kvs (.inr "gained") = some (.int g)
  refused : valV kvs (.inr "refused") = some rf
  known : valV kvs (.inr "known") = some (.ref kd)
  many : valV kvs (.inr "many") = some (.int (L.length : Nat))
  hL : H lo = some (.lst (ln.map V.int))
  hW : H wo = some (.lst (wy.map fun b => V.str (wS b)))
  nW : wo ∉ M
  hS : StandAt H so S
  hK : KnownD P w ln wy S H kd ks L
  nK : kd ∉ M
  ref : RefOk M H rf
theorem OAt.keep {P : Program} {w : World} {M Z : List Addr} {H H' : Hp} {o lo : Addr} {ln : List Int} {wy : List Bool} {S : Stand} {g : Int} {rf : V} {kvs : List (Key × V)} {wo so kd : Addr} {ks : List Ent} {L : List Stand} (k : Keep Z H H') (t : Ti H H') (z : ∀ a ∈ Z, a ∈ M) (ho : o ∉ Z) (hl : lo ∉ Z) (h : OAt P w M H o lo ln wy S g rf kvs wo so kd ks L) : OAt P w M H' o lo ln wy S g rf kvs wo so kd ks L :=
  { h with at_ := k.1 _ _ h.at_ ho, hL := k.1 _ _ h.hL hl, hW := k.1 _ _ h.hW fun m => h.nW (z _ m), hS := h.hS.mono t, hK := h.hK.keep k t fun m => h.nK (z _ m), ref := h.ref.keep k t z }
/-- the lists that were told, each with its copy -/
def HeldAt (M : List Addr) (H : Hp) (hl : Addr) (m : Nat) : Prop := ∃ ps : List Addr, H hl = some (.lst (ps.map V.ref)) ∧ ps.length ≤ m ∧ ∀ p ∈ ps, ∃ t c xs ds, TupAt H p [.ref t, .ref c] ∧ (H t = some (.lst xs) ∧ t ∉ M) ∧ (H c = some (.lst xs) ∧ c ∉ M) ∧ ImAll H xs ds ∧ SeqAt.shaped (.list ds) = true
theorem HeldAt.keep {M Z : List Addr} {H H' : Hp} {hl : Addr} {m : Nat} (k : Keep Z H H') (t : Ti H H') (z : ∀ a ∈ Z, a ∈ M) (n : hl ∉ Z) (h : HeldAt M H hl m) : HeldAt M H' hl m := by
  obtain ⟨ps, e, l, all⟩ := h
  refine ⟨ps, k.1 _ _ e n, l, fun p hp => ?_⟩
  obtain ⟨t', c, xs, ds, h1, ⟨h2, n2⟩, ⟨h3, n3⟩, h4, h5⟩ := all p hp
  exact ⟨t', c, xs, ds, t _ _ h1, ⟨k.1 _ _ h2 fun m => n2 (z _ m), n2⟩, ⟨k.1 _ _ h3 fun m => n3 (z _ m), n3⟩, h4.mono t, h5⟩
theorem dgV {H : Hp} {a : Addr} {kvs : List (Key × V)} {k : Str} {v : V} (e : H a = some (.dK kvs)) (h : valV kvs (.inr k) = some v) : DGet H a (.str k) (some v) := by
  have z := DGet.k (H := H) (a := a) (k := (.inr k : Key)) e
  rw [h] at z
  exact z
end Slx

set_option Elab.async false
set_option linter.all false
set_option maxRecDepth 100000
set_option maxHeartbeats 4000000
namespace Slx
open PySem PySem.Spec PyProof.Rows L2 Sl
theorem any_stand {M : List Stand} {S : Stand} (h : S ∈ M) : ((M.map dSt).any fun z => PyData.eqv z (dSt S)) = true :=
  List.any_eq_true.mpr ⟨dSt S, List.mem_map_of_mem h, SeqAt.eqv_refl _ (SeqAt.canLay_of_shaped (shaped_stand S))⟩
section
variable {P : Program} {w : World} {K : PySem.W.Frag} {mg : Str → Option Value} {base : Heap}
def spORow (P : Program) (w : World) : Sp := fun vs H Q _ => ∃ (M : List Addr) (o lo : Addr) (ln : List Int) (wy : List Bool) (S : Stand) (g : Int) (rf : V) (kvs : List (Key × V)) (wo so kd : Addr) (ks : List Ent) (L : List Stand) (r : Addr) (xs : List V) (R : List Mv) (T : Stand),
  vs = [.ref o, .ref r, .int (R.length : Nat)] ∧ OAt P w M H o lo ln wy S g rf kvs wo so kd ks L ∧ OkStand ln wy S ∧ RowAt H r xs R ∧ R.length ≤ 200 ∧ rowEnd ln wy S R = some T ∧ allOut T = true ∧ ∀ H', Same H H' → Q (.bl true) H'
theorem ok_oRow (T : Txt K mg) : DefOk P w K mg base 3 "_law_is_row" ["_law_own_here", "_law_row", "_law_price"] (spORow P w) := by
  have D_lMoves : DefOk P w K mg base 2 "_law_moves" ["_law_lane", "_law_ways", "_law_stand"] (spLMoves K) := ok_lMoves T
  refine T.f_lIsRow.ok sc_lIsRow (fun vs H Q E h => by obtain ⟨M, o, lo, ln, wy, S, g, rf, kvs, wo, so, kd, ks, L, r, xs, R, T, rfl, _⟩ := h; rfl) (fun f cdv A outer s H vs Q E hr h => ?_)
  obtain ⟨M, o, lo, ln, wy, S, g, rf, kvs, wo, so, kd, ks, L, r, xs, R, U, rfl, O, ok, ⟨er, ir⟩, zR, hU, aU, q⟩ := h
  have hL : LaneAt K H lo ln := .inl (.inl O.hL)
  have hW : WaysAt K H wo wy := .inl (.inl O.hW)
  refine ⟨_, (pss_cons (ps_if (PW.pt (pw_or (pt_not (pt_val (pe_callB (r := rIsi K) (id := "isinstance") call_isi (by rfl) T.b_isinstance (by decide +kernel) (pa_cons (pv 1) (pa_cons (pe_ty (T := "list") T.b_list (by decide +kernel)) pa_nil))))) (pw_or1 (pt_cmpR op_ne (pe_callB call_len_seq (by rfl) T.b_len (by decide +kernel) (pa_cons (pv 1) pa_nil)) (pv 2) (nomark _))))) (pss_one (ps_ret pe_bl)) pss_nil)
      (pss_cons (ps_set (i := 3) sc_lIsRow.nd rfl (.inl rfl) (pe_dget (hu_of hr) (pv 0) pe_str (fun _ _ => rfl)))
      (pss_cons (ps_for PassesOwn.never rfl (pi_listK (K := K) (pv 1)) (pg_name (i := 4) sc_lIsRow.nd rfl (.inl rfl)) (pss_cons (ps_set (i := 5) sc_lIsRow.nd rfl (.inl rfl) (pe_callTy (call_dictL (P := P) (w := w) (K := K) rfl (hu10 hr)) (by rfl) T.b_dict (by decide +kernel) (pa_cons (pe_def D_lMoves (hr.mono (by omega)) (pa_cons (pe_dget (hu_of hr) (pv 0) pe_str (fun _ _ => rfl)) (pa_cons (pe_dget (hu_of hr) (pv 0) pe_str (fun _ _ => rfl)) (pa_cons (pv 3) pa_nil)))) pa_nil)))
      (pss_cons (ps_if (PW.pt (pw_or (pt_not (pt_val (pe_callB (r := rIsi K) (id := "isinstance") call_isi (by rfl) T.b_isinstance (by decide +kernel) (pa_cons (pv 4) (pa_cons (pe_ty (T := "tuple") T.b_tuple (by decide +kernel)) pa_nil))))) (pw_or1 (pt_cmp (pc_nnotin (P := P) (w := w) (hu9 hr) (pv 4) (pv 5)))))) (pss_one (ps_ret pe_bl)) pss_nil)
      (pss_one (ps_set (i := 3) sc_lIsRow.nd rfl (.inl rfl) (pe_nget (P := P) (w := w) (hu9 hr) (pv 5) (pv 4) (fun _ _ => rfl)))))))
      (pss_one (ps_ret (pe_cmpR (r := rEqD K) (op_eqD (hu64 hr)) (pe_lc (g := gName 6) (own := [("_law_spot_here", 6)]) rfl sc_lIsRow.nd (pi_tupK (K := K) (pv 3)) (blkOk_by (own := [("_law_spot_here", 6)]) (N := ["_law_own_here", "_law_row", "_law_price", "_law_here", "_law_move", "_law_led", "_law_spot_here"]) (sc := defScope s_lIsRow) (by decide +kernel)) (fun _ _ _ _ _ => (pg_name (i := 6) sc_lIsRow.nd rfl (.inl rfl))) (fun _ _ _ _ _ => (pts_one (pt_cmpR op_ne (pe_ix (r := rIxT K) ix_tup (pv 6) pe_int (fun _ _ => rfl)) pe_str (nomark _)))) (fun _ _ _ _ _ => (pv 6))) (pe_lst pa_nil) (nomark _))))))), ?_⟩
  have lR : xs.length = R.length := by rw [ir.length, List.length_map]
  refine ⟨.ref r, rfl, .ref r, .ty "list", .type "list", .type "list", true, rfl, .ty _, .base (.lst er), by rfl, _, rfl, iteF' rfl ?_⟩
  refine ⟨.ref r, rfl, r, xs, rfl, .inl (.inl (.inl er)), .int (R.length : Nat), rfl, rfl, _, rfl, iteF' (by rw [lR]; simp) ?_⟩
  refine ⟨.ref o, rfl, o, .ref so, rfl, dgV O.at_ O.stand, ?_⟩
  refine ⟨.ref r, rfl, r, rfl, ⟨_, .inl (.inl er)⟩, ?_⟩
  refine for_it (walk_list (K := K) (a := r) (xs := xs)) (fun i σ G => Same H G ∧ ∃ (h : Addr) (T : Stand) (y4 y5 : Option V), StandAt G h T ∧ rowEnd ln wy S (R.take i) = some T ∧ σ = [some (.ref o), some (.ref r), some (.int (R.length : Nat)), some (.ref h), y4, y5, none])
    ⟨Same.refl _, so, S, none, none, O.hS, by simp [rowEnd], rfl⟩ (fun i σ G _ p => .inl (.inl (p.1 _ _ er))) (fun i x σ G G' hi p y => ?_) (fun σ G p => ?_)
  · obtain ⟨sG, h, T, y4, y5, hT, eT, rfl⟩ := p
    obtain ⟨rfl, ex⟩ := y
    obtain ⟨dm, edm, imm⟩ := ir.getV ex
    rw [List.getElem?_map] at edm
    cases em : R[i]? with
    | none => rw [em] at edm; cases edm
    | some m =>
      rw [em] at edm
      cases edm
      obtain ⟨mp, rfl, km⟩ := im_moveK (Im.mono (Ti.of sG) imm)
      obtain ⟨T', eT'⟩ := rowEnd_take (i + 1) hU
      have bm : behindMv ln wy T m = some T' := by rw [take_snoc em, rowEnd_snoc eT] at eT'; exact eT'
      have okT := (rowEnd_ok ok eT).1
      have eo := sG _ _ O.at_
      refine ⟨.ref o, rfl, o, .ref lo, rfl, dgV eo O.lane, .ref o, rfl, o, .ref wo, rfl, dgV eo O.ways, .ref h, rfl, lo, wo, h, ln, wy, T, rfl, sG.seq hL, sG.seq hW, hT, okT, fun G1 F ms s1 hF eF iF => ?_⟩
      obtain ⟨ps, es, rfl, p1, p2⟩ := ents_moves (K := K) iF
      refine ⟨F, ps, es, rfl, .inl (.inl eF), ⟨p1, leads_at p2⟩, fun d od hd => ?_⟩
      rw [leads_once p2]
      have s2 := same_new (o := .frz od (dNO P w d es)) hd
      have dr : DR P w (upd G1 d (.frz od (dNO P w d es))) d es := DL.rd (o := od) ⟨upd_same, fun x hx => (leads_at p2 x hx).mono (Ti.of s2)⟩
      have p3 := leads_mono (Ti.of s2) p2
      obtain ⟨v, hv, iv⟩ := val_move p3 bm
      have s12 := s1.trans s2
      have km2 := km.mono (Ti.of s12)
      obtain ⟨om, eom, _⟩ : ∃ om, upd G1 d (.frz od (dNO P w d es)) mp = some (.frz om (.tup [.str (dW m.1), .int m.2])) ∧ om.dict = none := by
        obtain ⟨mp', e1, hm⟩ := im_move (Im.mono ((Ti.of sG).trans (Ti.of s12)) imm)
        cases e1
        exact hm
      refine ⟨.ref mp, rfl, .ref mp, .ty "tuple", .type "tuple", .type "tuple", true, rfl, .ty _, .fTuple eom, by rfl, _, rfl, iteF' rfl ?_⟩
      refine ⟨.ref mp, rfl, .ref d, rfl, d, mp, es, kMv m, ⟨rfl, rfl⟩, ⟨dr, km2⟩, _, rfl, ?_⟩
      rw [hv]
      refine iteF ⟨.ref d, rfl, .ref mp, rfl, d, mp, es, kMv m, ⟨rfl, rfl⟩, ⟨dr, km2⟩, v, hv, ?_⟩
      obtain ⟨h', rfl, hT'⟩ := im_standAt iv
      exact ⟨sG.trans s12, h', T', _, _, hT', eT', rfl⟩
  · obtain ⟨sG, h, T, y4, y5, hT, eT, rfl⟩ := p
    rw [List.take_of_length_le (by omega), hU] at eT
    cases eT
    obtain ⟨us, eu, iu⟩ := id hT
    have lu := StandAt.len iu
    have okU := (rowEnd_ok ok hU).1
    have z6 := stand_size okU iu
    refine ⟨.ref h, rfl, h, rfl, ⟨us, eu.sq⟩, fun D hD => ?_⟩
    refine lc_it (walk_tup (K := K) (a := h) (xs := us)) (fun j G' => Same G G' ∧ ∃ ac, G' D = some (.lst ac) ∧ ImAll G' ac ((still (U.take j)).map dS)) ⟨same_new hD, [], upd_same, by simp [still]; exact .nil⟩ (fun j G' _ p => (Ti.of p.1 _ _ eu).sq) (fun j x G1 G2 hj p y => ?_) (fun G' p => ?_)
    · obtain ⟨rfl, ex⟩ := y
      obtain ⟨s1, ac, ea, ia⟩ := p
      obtain ⟨pj, sj, rfl, esj, hsj⟩ := stand_getV iu ex
      obtain ⟨wd, rest, ev, ew⟩ := word_out sj
      have hs1 := Ti.of s1 _ _ hsj
      rw [ev] at hs1
      refine ⟨rfl, .ref pj, rfl, pj, _, 0, _, rfl, rfl, hs1.sq, at0, rfl, _, rfl, ?_⟩
      rw [ew, take_snoc esj, still_snoc]
      have lac : ac.length ≤ 8 := by
        have h1 := ia.length
        rw [List.length_map] at h1
        have h2 : (still (U.take j)).length ≤ (U.take j).length := List.length_filter_le ..
        rw [List.length_take] at h2
        omega
      by_cases hq : sj = .out
      · rw [if_pos hq, decide_eq_true hq]
        exact iteF ⟨s1, ac, ea, ia⟩
      · rw [if_neg hq, decide_eq_false hq]
        have tl := Ti.lst (o := .lst (ac ++ [.ref pj])) ea
        refine iteT ⟨.ref pj, rfl, ac, ea, Nat.lt_of_le_of_lt lac (by decide), same_mut s1 hD, _, upd_same, ?_⟩
        rw [List.map_append]
        exact (ia.mono tl).append (.cons (SpotAt.im (tl _ _ (Ti.of s1 _ _ hsj))) .nil)
    · obtain ⟨s1, ac, ea, ia⟩ := p
      rw [List.take_of_length_le (by omega), still_none aU] at ia
      refine ⟨Nat.zero_le _, fun e he => ?_⟩
      have s2 := same_new (o := .lst []) he
      cases ia
      refine ⟨.list [], .list [], .lst (.inl (.inl (s2 _ _ ea))) .nil, .lst (.inl (.inl upd_same)) .nil, rfl, rfl, ?_⟩
      exact q _ ((sG.trans s1).trans s2)
def spOClosed (P : Program) (w : World) : Sp := fun vs H Q _ => ∃ (Z : List Addr) (o lo : Addr) (ln : List Int) (wy : List Bool) (S : Stand) (g : Int) (rf : V) (kvs : List (Key × V)) (wo so kd : Addr) (ks : List Ent) (L : List Stand) (t : Addr) (xs : List V) (M : List Stand),
  vs = [.ref o, .ref t] ∧ OAt P w Z H o lo ln wy S g rf kvs wo so kd ks L ∧ (H t = some (.lst xs) ∧ ImAll H xs (M.map dSt)) ∧ M.length ≤ 200000 ∧ S ∈ M ∧ Shut ln wy M ∧ ∀ H', Same H H' → Q (.bl true) H'
theorem ok_oClosed (T : Txt K mg) : DefOk P w K mg base 3 "_law_is_closed" ["_law_own_here", "_law_told"] (spOClosed P w) := by
  have D_lMoves : DefOk P w K mg base 2 "_law_moves" ["_law_lane", "_law_ways", "_law_stand"] (spLMoves K) := ok_lMoves T
  refine T.f_lIsClosed.ok sc_lIsClosed (fun vs H Q E h => by obtain ⟨M, o, lo, ln, wy, S, g, rf, kvs, wo, so, kd, ks, L, t, xs, M, rfl, _⟩ := h; rfl) (fun f cdv A outer s H vs Q E hr h => ?_)
  obtain ⟨Z, o, lo, ln, wy, S, g, rf, kvs, wo, so, kd, ks, L, t, xs, M, rfl, O, ⟨et, it⟩, z, hSM, sh, q⟩ := h
  have hL : LaneAt K H lo ln := .inl (.inl O.hL)
  have hW : WaysAt K H wo wy := .inl (.inl O.hW)
  refine ⟨_, (pss_cons (ps_if (PW.pt (pw_or (pt_not (pt_val (pe_callB (r := rIsi K) (id := "isinstance") call_isi (by rfl) T.b_isinstance (by decide +kernel) (pa_cons (pv 1) (pa_cons (pe_ty (T := "list") T.b_list (by decide +kernel)) pa_nil))))) (pw_or1 (pt_cmpR (r := rNotInD K) (op_notInD (hu65 hr)) (pe_dget (hu_of hr) (pv 0) pe_str (fun _ _ => rfl)) (pv 1) (by rfl))))) (pss_one (ps_ret pe_bl)) pss_nil)
      (pss_cons (ps_set (i := 3) sc_lIsClosed.nd rfl (.inr rfl) (pe_callTy (call_dictL (P := P) (w := w) (K := K) rfl (hu10 hr)) (by rfl) T.b_dict (by decide +kernel) (pa_cons (pe_lc (g := gName 2) (own := [("_law_one", 2)]) rfl sc_lIsClosed.nd (pi_listK (K := K) (pv 1)) (blkOk_by (own := [("_law_one", 2)]) (N := ["_law_own_here", "_law_told", "_law_one", "_law_known_here", "_law_here", "_law_spot_here", "_law_move", "_law_fresh"]) (sc := defScope s_lIsClosed) (by decide +kernel)) (fun _ _ _ _ _ => (pg_name (i := 2) sc_lIsClosed.nd rfl (.inl rfl))) (fun _ _ _ _ _ => pts_nil) (fun _ _ _ _ _ => (pe_tupF (pa_cons (pv 2) (pa_cons pe_bl pa_nil))))) pa_nil)))
      (pss_cons (ps_for PassesOwn.never rfl (pi_keysN (P := P) (w := w) (pv 3)) (pg_name (i := 4) sc_lIsClosed.nd rfl (.inl rfl)) (pss_cons (ps_if (pt_cmpR (r := rEqD K) (op_eqD (hu64 hr)) (pe_lc (g := gName 5) (own := [("_law_spot_here", 5)]) rfl sc_lIsClosed.nd (pi_tupK (K := K) (pv 4)) (blkOk_by (own := [("_law_spot_here", 5)]) (N := ["_law_own_here", "_law_told", "_law_one", "_law_known_here", "_law_here", "_law_spot_here", "_law_move", "_law_fresh"]) (sc := defScope s_lIsClosed) (by decide +kernel)) (fun _ _ _ _ _ => (pg_name (i := 5) sc_lIsClosed.nd rfl (.inl rfl))) (fun _ _ _ _ _ => (pts_one (pt_cmpR op_ne (pe_ix (r := rIxT K) ix_tup (pv 5) pe_int (fun _ _ => rfl)) pe_str (nomark _)))) (fun _ _ _ _ _ => (pv 5))) (pe_lst pa_nil) (nomark _)) (pss_one (ps_ret pe_bl)) pss_nil)
      (pss_one (ps_if (pt_cmpR (r := rNeD K) (op_neD (hu64 hr)) (pe_lc (g := gTup K 2 (gCons (gName 6) (gCons (gName 7) gNil))) (own := [("_law_move", 6), ("_law_fresh", 7)]) rfl sc_lIsClosed.nd (pi_listK (K := K) (pe_def D_lMoves (hr.mono (by omega)) (pa_cons (pe_dget (hu_of hr) (pv 0) pe_str (fun _ _ => rfl)) (pa_cons (pe_dget (hu_of hr) (pv 0) pe_str (fun _ _ => rfl)) (pa_cons (pv 4) pa_nil))))) (blkOk_by (own := [("_law_move", 6), ("_law_fresh", 7)]) (N := ["_law_own_here", "_law_told", "_law_one", "_law_known_here", "_law_here", "_law_spot_here", "_law_move", "_law_fresh"]) (sc := defScope s_lIsClosed) (by decide +kernel)) (fun _ _ _ _ _ => (pg_tup rfl (pgs_cons (pg_name (i := 6) sc_lIsClosed.nd rfl (.inl rfl)) (pgs_cons (pg_name (i := 7) sc_lIsClosed.nd rfl (.inl rfl)) pgs_nil)))) (fun _ _ _ _ _ => (pts_one (pt_cmp (pc_nnotin (P := P) (w := w) (hu9 hr) (pv 7) (pv 3))))) (fun _ _ _ _ _ => (pv 7))) (pe_lst pa_nil) (nomark _)) (pss_one (ps_ret pe_bl)) pss_nil))))
      (pss_one (ps_ret pe_bl))))), ?_⟩
  have lx : xs.length = M.length := by rw [it.length, List.length_map]
  refine ⟨.ref t, rfl, .ref t, .ty "list", .type "list", .type "list", true, rfl, .ty _, .base (.lst et), by rfl, _, rfl, iteF' rfl ?_⟩
  refine ⟨.ref o, rfl, o, .ref so, rfl, dgV O.at_ O.stand, .ref t, rfl, dSt S, M.map dSt, O.hS.im.dp, .lst (.inl (.inl et)) it.dp, shaped_stand S, shaped_stands M, _, rfl, ?_⟩
  rw [any_stand hSM]
  refine iteF' rfl ?_
  -- the dict
  refine ⟨.ref t, rfl, t, rfl, ⟨_, .inl (.inl et)⟩, fun D2 hD2 => ?_⟩
  refine lc_map (walk_list (K := K) (a := t) (xs := xs)) (fun i y H' => ∃ T, M[i]? = some T ∧ Im H' y (dTrue T)) (fun i y G G' tt e => by obtain ⟨T, h1, h2⟩ := e; exact ⟨T, h1, h2.mono tt⟩) (Nat.lt_of_le_of_lt (by omega : _ ≤ 200000) (by decide)) hD2 (fun H' s => .inl (.inl (s _ _ et))) (fun i x G G' k hi s2 y hk => ?_) (fun G ys s2 e2 l2 el2 => ?_)
  · obtain ⟨rfl, ex⟩ := y
    obtain ⟨dd, ed, im⟩ := it.getV ex
    rw [List.getElem?_map] at ed
    cases eM : M[i]? with
    | none => rw [eM] at ed; cases ed
    | some T =>
      rw [eM] at ed
      cases ed
      refine ⟨rfl, _, rfl, two_size, nT_q fun G2 p s3 tp => hk _ _ s3 ⟨T, eM, .tup tp (.cons (Im.mono (Ti.of (s2.trans s3)) im) (.cons (.bl true) .nil))⟩⟩
  have iy : ImAll G ys (M.map dTrue) := by
    refine ImAll.of (by rw [l2, lx, List.length_map]) fun i v dv hv hdv => ?_
    obtain ⟨T, hT, him⟩ := el2 i v hv
    rw [List.getElem?_map, hT] at hdv
    cases hdv
    exact him
  obtain ⟨ps, es, rfl, p1, p2, p3⟩ := ents_true (K := K) iy
  have so' := setOf_true p3
  refine ⟨D2, ps, es, rfl, .inl (.inl e2), ⟨p1, p2⟩, fun d od hd => ?_⟩
  have s3 := same_new (o := .frz od (dNO P w d (putsN [] es))) hd
  have dl : DL P w (upd G d (.frz od (dNO P w d (putsN [] es)))) d od (putsN [] es) := ⟨upd_same, fun x hx => (putsN_keys (ks := []) (fun _ h => nomatch h) p2 x hx).mono (Ti.of s3)⟩
  have s13 := s2.trans s3
  generalize putsN [] es = ks at so' dl s13
  refine ⟨.ref d, rfl, d, od, ks, rfl, dl.at_, ?_⟩
  obtain ⟨G3, hG3⟩ : ∃ G3, G3 = upd G d (.frz od (dNO P w d ks)) := ⟨_, rfl⟩
  rw [← hG3] at dl s13
  refine for_it (walk_n (P := P) (w := w) (a := d) (o := od) (ks := ks) rfl) (fun i σ G' => Same G3 G' ∧ ∃ y4, σ = [some (.ref o), some (.ref t), none, some (.ref d), y4, none, none, none]) ⟨by subst hG3; exact Same.refl _, none, rfl⟩ (fun i σ G' _ p => (dl.same p.1).at_) (fun i x σ G4 G5 hi p y => ?_) (fun σ G4 p => ?_)
  · obtain ⟨s4, y4, rfl⟩ := p
    obtain ⟨rfl, e, he, rfl⟩ := y
    have hek := mem_of_some he
    obtain ⟨T, hT, eT⟩ := so'.key e hek
    have dl4 := dl.same s4
    have kT := dl4.keys e hek
    rw [eT] at kT
    have sT := KeyAt.stand kT
    have okT := sh.ok T hT
    obtain ⟨us, eu, iu⟩ := id sT
    have lu := StandAt.len iu
    have z6 := stand_size okT iu
    refine ⟨.ref e.2.1, rfl, e.2.1, rfl, ⟨us, eu.sq⟩, fun D3 hD3 => ?_⟩
    refine lc_it (walk_tup (K := K) (a := e.2.1) (xs := us)) (fun j G' => Same G5 G' ∧ ∃ ac, G' D3 = some (.lst ac) ∧ ImAll G' ac ((still (T.take j)).map dS)) ⟨same_new hD3, [], upd_same, by simp [still]; exact .nil⟩ (fun j G' _ p => (Ti.of p.1 _ _ eu).sq) (fun j x G1 G2 hj p y => ?_) (fun G' p => ?_)
    · obtain ⟨rfl, ex⟩ := y
      obtain ⟨s1, ac, ea, ia⟩ := p
      obtain ⟨pj, sj, rfl, esj, hsj⟩ := stand_getV iu ex
      obtain ⟨wd, rest, ev, ew⟩ := word_out sj
      have hs1 := Ti.of s1 _ _ hsj
      rw [ev] at hs1
      refine ⟨rfl, .ref pj, rfl, pj, _, 0, _, rfl, rfl, hs1.sq, at0, rfl, _, rfl, ?_⟩
      rw [ew, take_snoc esj, still_snoc]
      have lac : ac.length ≤ 8 := by
        have h1 := ia.length
        rw [List.length_map] at h1
        have h2 : (still (T.take j)).length ≤ (T.take j).length := List.length_filter_le ..
        rw [List.length_take] at h2
        omega
      by_cases hq : sj = .out
      · rw [if_pos hq, decide_eq_true hq]
        exact iteF ⟨s1, ac, ea, ia⟩
      · rw [if_neg hq, decide_eq_false hq]
        have tl := Ti.lst (o := .lst (ac ++ [.ref pj])) ea
        refine iteT ⟨.ref pj, rfl, ac, ea, Nat.lt_of_le_of_lt lac (by decide), same_mut s1 hD3, _, upd_same, ?_⟩
        rw [List.map_append]
        exact (ia.mono tl).append (.cons (SpotAt.im (tl _ _ (Ti.of s1 _ _ hsj))) .nil)
    obtain ⟨s5, ac, ea, ia⟩ := p
    rw [List.take_of_length_le (by omega)] at ia
    refine ⟨Nat.zero_le _, fun e0 he0 => ?_⟩
    have s6 := same_new (o := .lst []) he0
    refine ⟨.list ((still T).map dS), .list [], .lst (.inl (.inl (s6 _ _ ea))) (ia.mono (Ti.of s6)).dp, .lst (.inl (.inl upd_same)) .nil, shaped_spots _, rfl, _, rfl, ?_⟩
    rw [eqv_still, still_empty, sh.notOut T hT]
    refine iteF ?_
    have s56 := s5.trans s6
    have s06 := s13.trans (s4.trans s56)
    have dl6 := dl4.same s56
    have sT6 := sT.mono (Ti.of s56)
    have eo := s06 _ _ O.at_
    refine ⟨.ref o, rfl, o, .ref lo, rfl, dgV eo O.lane, .ref o, rfl, o, .ref wo, rfl, dgV eo O.ways, .ref e.2.1, rfl, lo, wo, e.2.1, ln, wy, T, rfl, s06.seq hL, s06.seq hW, sT6, okT, fun G7 ml ms s7 hml eml iml => ⟨ml, rfl, ⟨_, .inl (.inl eml)⟩, fun D4 hD4 => ?_⟩⟩
    have dl7 := dl6.same s7
    refine lc_it (walk_list (K := K) (a := ml) (xs := ms)) (fun j G' => Same G7 G' ∧ G' D4 = some (.lst [])) ⟨same_new hD4, upd_same⟩ (fun j G' _ p => .inl (.inl (p.1 _ _ eml))) (fun j x G8 G9 hj p y => ?_) (fun G8 p => ?_)
    · obtain ⟨s8, e8⟩ := p
      obtain ⟨rfl, ex⟩ := y
      obtain ⟨dd, edd, imd⟩ := iml.getV ex
      rw [List.getElem?_map] at edd
      cases ec : (allPairs ln wy T)[j]? with
      | none => rw [ec] at edd; cases edd
      | some c =>
      rw [ec] at edd
      cases edd
      obtain ⟨pt, u1, u2, rfl, tt, i1, i2⟩ := im_pair (Im.mono (Ti.of s8) imd)
      obtain ⟨pu, rfl, hpu⟩ := im_standAt i2
      have hin : T.set c.1.2 c.2 ∈ M := sh.next T hT _ (List.mem_map_of_mem (f := fun c : Mv × Spot => T.set c.1.2 c.2) (mem_of_some ec))
      refine ⟨pt, _, rfl, tt.sq, rfl, _, _, rfl, _, _, rfl, rfl, rfl, .ref pu, rfl, .ref d, rfl, d, pu, ks, kSt (T.set c.1.2 c.2), ⟨rfl, rfl⟩, ⟨(dl7.same s8).rd, hpu.key⟩, _, rfl, ?_⟩
      rw [so'.mem, decide_eq_true hin]
      exact iteF ⟨s8, e8⟩
    obtain ⟨s8, e8⟩ := p
    refine ⟨Nat.zero_le _, fun e1 he1 => ?_⟩
    have s9 := same_new (o := .lst []) he1
    exact ⟨.list [], .list [], .lst (.inl (.inl (s9 _ _ e8))) .nil, .lst (.inl (.inl upd_same)) .nil, rfl, rfl, _, rfl, iteF' rfl ⟨s4.trans (s56.trans (s7.trans (s8.trans s9))), _, rfl⟩⟩
  · obtain ⟨s4, y4, rfl⟩ := p
    exact q G4 (s13.trans s4)
end
end Slx

set_option Elab.async false
set_option linter.all false
set_option maxRecDepth 100000
set_option maxHeartbeats 4000000
namespace Slx
open PySem PySem.Spec PyProof.Rows L2 Sl
theorem canLay_app : ∀ (l : List PyData) (d : PyData), PyData.canLayAll0 (l ++ [d]) = (PyData.canLayAll0 l && PyData.canLay0 d)
  | [], d => by show (PyData.canLay0 d && true) = (true && PyData.canLay0 d); simp
  | x :: l, d => by
    show (PyData.canLay0 x && PyData.canLayAll0 (l ++ [d])) = ((PyData.canLay0 x && PyData.canLayAll0 l) && PyData.canLay0 d)
    rw [canLay_app l d, Bool.and_assoc]
theorem depth_app : ∀ (l : List PyData) (d : PyData), PyData.depthAll (l ++ [d]) = max (PyData.depthAll l) (PyData.depth d)
  | [], d => by show max (PyData.depth d) 0 = max 0 (PyData.depth d); omega
  | x :: l, d => by
    show max (PyData.depth x) (PyData.depthAll (l ++ [d])) = max (max (PyData.depth x) (PyData.depthAll l)) (PyData.depth d)
    rw [depth_app l d]
    omega
theorem shaped_more {ds : List PyData} (h : SeqAt.shaped (.list ds) = true) (d3 : PyData.depthAll ds ≤ 10) (m : Mv) : SeqAt.shaped (.list (ds ++ [dM m])) = true := by
  have h1 : PyData.canLayAll0 ds = true := SeqAt.canLay_of_shaped h
  have h2 : PyData.canLay0 (dM m) = true := SeqAt.canLay_of_shaped (shaped_move m)
  have h3 : PyData.depth (dM m) ≤ 2 := by obtain ⟨w, k⟩ := m; simp [dM, PyData.depth, PyData.depthAll]
  unfold SeqAt.shaped
  rw [show PyData.canLay0 (.list (ds ++ [dM m])) = true by show PyData.canLayAll0 (ds ++ [dM m]) = true; rw [canLay_app, h1, h2]; rfl]
  have : PyData.depth (.list (ds ++ [dM m])) ≤ 64 := by
    simp only [PyData.depth]
    rw [depth_app]
    omega
  rw [decide_eq_true this]
  rfl
theorem shaped_flat {α : Type} (f : α → PyData) (h1 : ∀ x, PyData.canLay0 (f x) = true) (h2 : ∀ x, PyData.depth (f x) = 0) (l : List α) : SeqAt.shaped (.list (l.map f)) = true := by
  obtain ⟨a, b⟩ := flat_map f h1 h2 l
  unfold SeqAt.shaped
  rw [show PyData.canLay0 (.list (l.map f)) = true from a]
  have h : PyData.depth (.list (l.map f)) ≤ 64 := by
    simp only [PyData.depth]; omega
  rw [decide_eq_true h]
  rfl
theorem shaped_lane (ln : List Int) : SeqAt.shaped (dLane ln) = true := shaped_flat PyData.int (fun _ => rfl) (fun _ => rfl) ln
theorem shaped_ways (wy : List Bool) : SeqAt.shaped (dWays wy) = true := shaped_flat (fun b : Bool => PyData.str (wS b)) (fun b => by cases b <;> decide +kernel) (fun _ => rfl) wy
theorem im_ways {H : Hp} : ∀ l : List Bool, ImAll H (l.map fun b => V.str (wS b)) (l.map fun b => PyData.str (wS b))
  | [] => .nil
  | x :: l => .cons (.str _) (im_ways l)
section
variable {P : Program} {w : World} {K : PySem.W.Frag} {mg : Str → Option Value} {base : Heap}
/-- what a told list is, that it can be changed -/
def ChOk (H : Hp) (q : Nat) (xs : List V) : Prop := (q = 5 ∧ ∃ i is, xs = (i :: is : List Int).map V.int ∧ is.length ≤ 100) ∨ (q = 6 ∧ ∃ b bs, xs = (b :: bs : List Bool).map (fun b => V.str (wS b)) ∧ bs.length ≤ 100) ∨ ((q ≠ 5 ∧ q ≠ 6) ∧ xs.length ≤ 200000 ∧ ∃ ds, ImAll H xs ds ∧ SeqAt.shaped (.list (ds ++ [dM (.go, 0)])) = true)
theorem ChOk.same {H H' : Hp} {q : Nat} {xs : List V} (s : Same H H') (h : ChOk H q xs) : ChOk H' q xs := by
  rcases h with h | h | ⟨h1, h2, ds, h3, h4⟩
  · exact .inl h
  · exact .inr (.inl h)
  · exact .inr (.inr ⟨h1, h2, ds, h3.mono (Ti.of s), h4⟩)
def spChanged (K : PySem.W.Frag) : Sp := fun vs H Q _ => ∃ (t : Addr) (q : Nat) (xs : List V), vs = [.ref t, .int (q : Nat)] ∧ H t = some (.lst xs) ∧ ChOk H q xs ∧ ∀ H' ys ds, Keep [t] H H' → Ti H H' → H' t = some (.lst ys) → ImAll H' ys ds → SeqAt.shaped (.list ds) = true → ys.length ≤ 200001 → Q .non H'
theorem ok_lChanged (T : Txt K mg) : DefOk P w K mg base 1 "_law_changed" ["_law_told", "_law_question"] (spChanged K) := by
  refine T.f_lChanged.ok sc_lChanged (fun vs H Q E h => by obtain ⟨t, q, xs, rfl, _⟩ := h; rfl) (fun f cdv A outer s H vs Q E hr h => ?_)
  obtain ⟨t, q, xs, rfl, et, ch, k⟩ := h
  refine ⟨_, (pss_one (ps_if (pt_cmpR op_eq (pv 1) pe_int (nomark _)) (pss_one (ps_asg (pe_op op_mod (pe_op op_add (pe_ix (r := rIxL K) ix_list (pv 0) pe_int (fun _ _ => rfl)) pe_int) pe_int) (pg_sub (pv 0) pe_int set_list))) (pss_one (ps_if (pt_cmpR op_eq (pv 1) pe_int (nomark _)) (pss_one (ps_asg (pe_ix (r := rIxL K) ix_list (pe_lst (pa_cons pe_str (pa_cons pe_str pa_nil))) (pe_callTy call_int1 (by rfl) T.b_int (by decide +kernel) (pa_cons (pe_cmpR op_eq (pe_ix (r := rIxL K) ix_list (pv 0) pe_int (fun _ _ => rfl)) pe_str (nomark _)) pa_nil)) (fun _ _ => rfl)) (pg_sub (pv 0) pe_int set_list))) (pss_one (ps_expr (pe_bm PySem.F.plainAttrs_list PySem.F.slot_list_append PySem.F.type_list_append mt_append (pv 0) (pa_cons (pe_tupF (pa_cons pe_str (pa_cons pe_int pa_nil))) pa_nil)))))))), ?_⟩
  refine ⟨.int q, rfl, rfl, _, rfl, ?_⟩
  rcases ch with ⟨rfl, i, is, rfl, zl⟩ | ⟨rfl, b, bs, rfl, zl⟩ | ⟨⟨n5, n6⟩, zl, ds, im, sh⟩
  · refine iteT' (decide_eq_true rfl) ?_
    refine ⟨.ref t, rfl, t, _, 0, .int i, rfl, rfl, .inl (.inl et), at0, i, 1, rfl, rfl, i + 1, 5, rfl, rfl, (by show (0 : Int) < 5; decide), .ref t, rfl, t, _, 0, 0, rfl, rfl, et, by unfold ixN; rw [if_pos (by omega), if_pos (by rw [List.length_map, List.length_cons]; omega)]; rfl, ?_⟩
    have tl := Ti.lst (o := .lst (((i :: is : List Int).map V.int).set 0 (.int ((i + 1) % 5)))) et
    refine k _ ((((i + 1) % 5) :: is : List Int).map V.int) _ ((Keep.of (Same.refl _)).upd (List.mem_singleton.mpr rfl)) tl upd_same (im_ints _) (shaped_lane _) ?_
    rw [List.length_map, List.length_cons]
    omega
  · refine iteF' (decide_eq_false (by decide)) ⟨.int 6, rfl, rfl, _, rfl, iteT' (decide_eq_true rfl) ?_⟩
    refine ⟨two_size, fun l hl => ?_⟩
    have s1 := same_new (o := .lst [.str "right", .str "left"]) hl
    have el : (upd H l (.lst [.str "right", .str "left"])) l = some (.lst [.str "right", .str "left"]) := upd_same
    generalize upd H l (.lst [.str "right", .str "left"]) = G1 at s1 el
    have et1 := s1 _ _ et
    refine ⟨.ref t, rfl, t, _, 0, .str (wS b), rfl, rfl, .inl (.inl et1), at0, rfl, .inr ⟨_, rfl, l, _, _, .str (wS (!b)), rfl, rfl, .inl (.inl el), ?_, .ref t, rfl, t, _, 0, 0, rfl, rfl, et1, by unfold ixN; rw [if_pos (by omega), if_pos (by rw [List.length_map, List.length_cons]; omega)]; rfl, ?_⟩⟩
    · rw [way_right]
      cases b
      · exact at0
      · exact at1
    have tl := Ti.lst (o := .lst (((b :: bs : List Bool).map fun b => V.str (wS b)).set 0 (.str (wS (!b))))) et1
    refine k _ (((!b) :: bs : List Bool).map fun b => V.str (wS b)) _ ((Keep.of s1).upd (List.mem_singleton.mpr rfl)) ((Ti.of s1).trans tl) upd_same (im_ways _) (shaped_ways _) ?_
    rw [List.length_map, List.length_cons]
    omega
  · refine iteF' (decide_eq_false (by simp; omega)) ⟨.int q, rfl, rfl, _, rfl, iteF' (decide_eq_false (by simp; omega)) ?_⟩
    refine ⟨.ref t, rfl, .inl ⟨rfl, _, .inl (.inl et)⟩, two_size, nT_q fun G1 m s1 tm => ?_⟩
    refine ⟨t, xs, .ref m, rfl, rfl, s1 _ _ et, Nat.lt_of_le_of_lt zl (by decide), ?_⟩
    have tl := Ti.lst (o := .lst (xs ++ [.ref m])) (s1 _ _ et)
    have ti := (Ti.of s1).trans tl
    refine k _ _ _ ((Keep.of s1).upd (List.mem_singleton.mpr rfl)) ti upd_same ((im.mono ti).append (.cons (.tup (tl _ _ tm) (.cons (.str _) (.cons (.int _) .nil))) .nil)) sh ?_
    rw [List.length_append, List.length_singleton]
    omega
end
end Slx

set_option Elab.async false
set_option linter.all false
set_option maxRecDepth 100000
set_option maxHeartbeats 4000000
namespace Slx
open PySem PySem.Spec PyProof.Rows L2 Sl
section
variable {P : Program} {w : World} {K : PySem.W.Frag} {mg : Str → Option Value} {base : Heap}
def spAnswer (P : Program) (w : World) (CY : Addr) : Sp := fun vs H Q _ => ∃ (Z : List Addr) (p l1 : Addr) (sh : Option (List Int)) (o lo : Addr) (ln : List Int) (wy : List Bool) (S : Stand) (g : Int) (rf : V) (kvs : List (Key × V)) (wo so kd : Addr) (ks : List Ent) (L : List Stand) (hl : Addr) (m q : Nat),
  vs = [.ref p, .ref o, .ref hl, .int (q : Nat)] ∧ q ≤ 6 ∧ YAt CY Z H p l1 ln wy S sh ∧ OAt P w Z H o lo ln wy S g rf kvs wo so kd ks L ∧ HeldAt Z H hl m ∧ OkStand ln wy S ∧ Few ln S ∧ OkSh wy S sh ∧ GainedBy ln wy S g sh ∧ (hl ∈ Z ∧ ∀ a ∈ Z, H a ≠ none) ∧ m ≤ 10000 ∧
  ∀ H', Keep [hl] H H' → Ti H H' → HeldAt Z H' hl (m + 1) → Q (.bl true) H'
theorem gained_one {ln : List Int} {wy : List Bool} {S : Stand} {g g' : Int} {sh : Option (List Int)} (a : GainedBy ln wy S g sh) (b : GainedBy ln wy S g' sh) : g = g' := by
  cases sh with
  | none => exact a.trans b.symm
  | some ln0 =>
    obtain ⟨m, n, h1, h2, rfl⟩ := a
    obtain ⟨m', n', g1, g2, rfl⟩ := b
    rw [h1.one g1, h2.one g2]
theorem HeldAt.more {M : List Addr} {H : Hp} {hl : Addr} {m : Nat} (h : HeldAt M H hl m) : HeldAt M H hl (m + 1) := by
  obtain ⟨ps, e, l, all⟩ := h
  exact ⟨ps, e, by omega, all⟩
theorem ok_lAnswer (T : Txt K mg) {CY : Addr} (Y : Yrd K mg CY) : DefOk P w K mg base 9 "_law_answer" ["_law_yard", "_law_own_here", "_law_held", "_law_question"] (spAnswer P w CY) := by
  have D_lWhole : DefOk P w K mg base 1 "_law_whole" ["_law_found"] spWhole := ok_whole T
  have D_lIsRow : DefOk P w K mg base 3 "_law_is_row" ["_law_own_here", "_law_row", "_law_price"] (spORow P w) := ok_oRow T
  have D_lIsClosed : DefOk P w K mg base 3 "_law_is_closed" ["_law_own_here", "_law_told"] (spOClosed P w) := ok_oClosed T
  have D_lChanged : DefOk P w K mg base 1 "_law_changed" ["_law_told", "_law_question"] (spChanged K) := ok_lChanged T
  have M_yPrice : MetR P w K mg base CY 8 "price" (spYPrice CY) := ok_yPrice T Y
  have M_yGained : MetR P w K mg base CY 7 "gained" (spYGained CY) := ok_yGained T Y
  have M_yStand : MetR P w K mg base CY 1 "stand" (spYStand CY) := ok_yStand T Y
  have M_yRow : MetR P w K mg base CY 7 "row" (spYRow CY) := ok_yRow T Y
  have M_yClosed : MetR P w K mg base CY 7 "closed" (spYClosed CY) := ok_yClosed T Y
  have M_yLane : MetR P w K mg base CY 1 "lane" (spYLane CY) := ok_yLane T Y
  have M_yWays : MetR P w K mg base CY 1 "ways" (spYWays CY) := ok_yWays T Y
  refine T.f_lAnswer.ok sc_lAnswer (fun vs H Q E h => by obtain ⟨Z, p, l1, sh, o, lo, ln, wy, S, g, rf, kvs, wo, so, kd, ks, L, hl, m, q, rfl, _⟩ := h; rfl) (fun f cdv A outer s H vs Q E hr h => ?_)
  obtain ⟨Z, p, l1, sh, o, lo, ln, wy, S, g, rf, kvs, wo, so, kd, ks, L, hl, m, q, rfl, q6, hy, O, hh, ok, few, oks, hg, ⟨hlZ, hZ⟩, zm, k⟩ := h
  obtain ⟨dx, l2, c, shv, hp, h1, ⟨h2, n2⟩, hS, hsh⟩ := id hy
  have vS := O.hK.val S ((O.hK.mem S).mpr .here)
  refine ⟨_, (pss_cons (ps_set (i := 4) sc_lAnswer.nd rfl (.inl rfl) (pe_nget (P := P) (w := w) (hu9 hr) (pe_dget (hu_of hr) (pv 1) pe_str (fun _ _ => rfl)) (pe_dget (hu_of hr) (pv 1) pe_str (fun _ _ => rfl)) (fun _ _ => rfl)))
      (pss_cons (ps_if (pt_cmpR op_eq (pv 3) pe_int (nomark _)) (pss_cons (ps_set (i := 5) sc_lAnswer.nd rfl (.inl rfl) (pe_metQ0 Y.cl M_yPrice (hr.mono (by omega)) (pv 0)))
      (pss_one (ps_ret (pe_or (pe_and (pe_cmpR (r := rIsN) op_isN1 (pv 5) pe_non (nomark _)) (pe_one (pe_cmpR (r := rIsN) op_isN1 (pv 4) pe_non (nomark _)))) (pe_one (pe_and (pe_def D_lWhole (hr.mono (by omega)) (pa_cons (pv 5) pa_nil)) (pe_one (pe_cmpR op_eq (pv 5) (pv 4) (nomark _))))))))) pss_nil)
      (pss_cons (ps_if (pt_cmpR op_eq (pv 3) pe_int (nomark _)) (pss_cons (ps_set (i := 5) sc_lAnswer.nd rfl (.inl rfl) (pe_metQ0 Y.cl M_yGained (hr.mono (by omega)) (pv 0)))
      (pss_one (ps_ret (pe_and (pe_def D_lWhole (hr.mono (by omega)) (pa_cons (pv 5) pa_nil)) (pe_one (pe_cmpR op_eq (pv 5) (pe_dget (hu_of hr) (pv 1) pe_str (fun _ _ => rfl)) (nomark _))))))) pss_nil)
      (pss_cons (ps_if (pt_cmpR op_eq (pv 3) pe_int (nomark _)) (pss_cons (ps_set (i := 5) sc_lAnswer.nd rfl (.inl rfl) (pe_metQ0 Y.cl M_yStand (hr.mono (by omega)) (pv 0)))
      (pss_one (ps_ret (pe_and (pe_callB (r := rIsi K) (id := "isinstance") call_isi (by rfl) T.b_isinstance (by decide +kernel) (pa_cons (pv 5) (pa_cons (pe_ty (T := "tuple") T.b_tuple (by decide +kernel)) pa_nil))) (pe_one (pe_cmpR (r := rEqD K) (op_eqD (hu64 hr)) (pv 5) (pe_dget (hu_of hr) (pv 1) pe_str (fun _ _ => rfl)) (nomark _))))))) pss_nil)
      (C8.pss_cut (ps_if (pt_cmpR op_eq (pv 3) pe_int (nomark _)) (pss_one (ps_set (i := 5) sc_lAnswer.nd rfl (.inl rfl) (pe_metQ0 Y.cl M_yRow (hr.mono (by omega)) (pv 0)))) (pss_one (ps_if (pt_cmpR op_eq (pv 3) pe_int (nomark _)) (pss_one (ps_set (i := 5) sc_lAnswer.nd rfl (.inl rfl) (pe_metQ0 Y.cl M_yClosed (hr.mono (by omega)) (pv 0)))) (pss_one (ps_if (pt_cmpR op_eq (pv 3) pe_int (nomark _)) (pss_one (ps_set (i := 5) sc_lAnswer.nd rfl (.inl rfl) (pe_metQ0 Y.cl M_yLane (hr.mono (by omega)) (pv 0)))) (pss_one (ps_set (i := 5) sc_lAnswer.nd rfl (.inl rfl) (pe_metQ0 Y.cl M_yWays (hr.mono (by omega)) (pv 0)))))))))
      (C8.pss_cut (ps_if (pt_cmpR op_eq (pv 3) pe_int (nomark _)) (pss_one (ps_set (i := 6) sc_lAnswer.nd rfl (.inl rfl) (pe_or (pe_and (pe_cmpR (r := rIsN) op_isN1 (pv 5) pe_non (nomark _)) (pe_one (pe_cmpR (r := rIsN) op_isN1 (pv 4) pe_non (nomark _)))) (pe_one (pe_and (pe_cmpR (r := rNotN) op_notN1 (pv 4) pe_non (nomark _)) (pe_one (pe_def D_lIsRow (hr.mono (by omega)) (pa_cons (pv 1) (pa_cons (pv 5) (pa_cons (pv 4) pa_nil)))))))))) (pss_one (ps_if (pt_cmpR op_eq (pv 3) pe_int (nomark _)) (pss_one (ps_set (i := 6) sc_lAnswer.nd rfl (.inl rfl) (pe_or (pe_and (pe_cmpR (r := rIsN) op_isN1 (pv 5) pe_non (nomark _)) (pe_one (pe_cmpR (r := rNotN) op_notN1 (pv 4) pe_non (nomark _)))) (pe_one (pe_and (pe_cmpR (r := rIsN) op_isN1 (pv 4) pe_non (nomark _)) (pe_one (pe_def D_lIsClosed (hr.mono (by omega)) (pa_cons (pv 1) (pa_cons (pv 5) pa_nil))))))))) (pss_one (ps_set (i := 6) sc_lAnswer.nd rfl (.inl rfl) (pe_and (pe_callB (r := rIsi K) (id := "isinstance") call_isi (by rfl) T.b_isinstance (by decide +kernel) (pa_cons (pv 5) (pa_cons (pe_ty (T := "list") T.b_list (by decide +kernel)) pa_nil))) (pe_one (pe_cmpR (r := rEqD K) (op_eqD (hu64 hr)) (pv 5) (pe_dget (hu_of hr) (pv 1) (pe_ix (r := rIxL K) ix_list (pe_lst (pa_cons pe_str (pa_cons pe_str pa_nil))) (pe_op op_sub (pv 3) pe_int) (fun _ _ => rfl)) (fun _ _ => rfl)) (nomark _)))))))))
      (pss_cons (ps_if (PW.pt (pw_and (pt_val (pv 6)) (pw_and1 (pt_cmpR (r := rNotN) op_notN1 (pv 5) pe_non (nomark _))))) (pss_cons (ps_expr (pe_def D_lChanged (hr.mono (by omega)) (pa_cons (pv 5) (pa_cons (pv 3) pa_nil))))
      (pss_one (ps_expr (pe_bm PySem.F.plainAttrs_list PySem.F.slot_list_append PySem.F.type_list_append mt_append (pv 2) (pa_cons (pe_tupF (pa_cons (pv 5) (pa_cons (pe_callTy call_list_of (by rfl) T.b_list (by decide +kernel) (pa_cons (pv 5) pa_nil)) pa_nil))) pa_nil))))) pss_nil)
      (pss_one (ps_ret (pv 6)))))))))), ?_⟩
  refine ⟨.ref o, rfl, o, .ref kd, rfl, dgV O.at_ O.known, .ref o, rfl, o, .ref so, rfl, dgV O.at_ O.stand, kd, so, ks, kSt S, ⟨rfl, rfl⟩, ⟨O.hK.dn.rd, O.hS.key⟩, _, vS, ?_⟩
  have fin : ∀ H', Same H H' → Q (.bl true) H' := fun H' s' => k H' (Keep.of s') (Ti.of s') ((hh.keep (Keep.of (Z := []) s') (Ti.of s') (fun _ h => nomatch h) (fun h => nomatch h)).more)
  refine ⟨.int q, rfl, rfl, _, rfl, ?_⟩
  by_cases q0 : q = 0
  · subst q0
    refine iteT' (decide_eq_true rfl) ⟨.ref p, rfl, p, dx, _, rfl, hp, rfl, Z, p, l1, ln, wy, S, sh, rfl, hy, ok, few, fun H1 s1 => ?_⟩
    cases hpr : priceOf ln wy S with
    | none => exact ⟨.non, rfl, rfl, _, rfl, iteT' (by simp) ⟨.non, rfl, rfl, _, rfl, iteT' (by simp) (fin H1 s1)⟩⟩
    | some n => 
      refine ⟨.int n, rfl, rfl, _, rfl, iteF' (by simp [vPrice]) ⟨_, rfl, iteF' rfl ⟨.int n, rfl, n, rfl, _, rfl, iteT ⟨.int n, rfl, .int n, rfl, rfl, ?_⟩⟩⟩⟩
      rw [decide_eq_true rfl]
      exact fin H1 s1
  refine iteF' (decide_eq_false (fun z => q0 (by have := V.int.inj z; omega))) ⟨.int q, rfl, rfl, _, rfl, ?_⟩
  by_cases q1 : q = 1
  · subst q1
    refine iteT' (decide_eq_true rfl) ⟨.ref p, rfl, p, dx, _, rfl, hp, rfl, Z, p, l1, ln, wy, S, sh, rfl, hy, ok, few, oks, fun H1 g' s1 hg' => ?_⟩
    obtain rfl := gained_one hg hg'
    refine ⟨.int g, rfl, g, rfl, _, rfl, iteT ⟨.int g, rfl, .ref o, rfl, o, .int g, rfl, dgV (s1 _ _ O.at_) O.gained, rfl, ?_⟩⟩
    rw [decide_eq_true rfl]
    exact fin H1 s1
  refine iteF' (decide_eq_false (fun z => q1 (by have := V.int.inj z; omega))) ⟨.int q, rfl, rfl, _, rfl, ?_⟩
  by_cases q2 : q = 2
  · subst q2
    refine iteT' (decide_eq_true rfl) ⟨.ref p, rfl, p, dx, _, rfl, hp, rfl, Z, p, l1, ln, wy, S, sh, rfl, hy, fun c' hc' => ?_⟩
    obtain ⟨us, ⟨oo, eoo, _⟩, _⟩ := id hc'
    refine ⟨.ref c', rfl, .ref c', .ty "tuple", .type "tuple", .type "tuple", true, rfl, .ty _, .fTuple eoo, by rfl, _, rfl, iteT ⟨.ref c', rfl, .ref o, rfl, o, .ref so, rfl, dgV O.at_ O.stand, dSt S, dSt S, hc'.im.dp, O.hS.im.dp, shaped_stand S, shaped_stand S, ?_⟩⟩
    rw [show PyData.eqv (dSt S) (dSt S) = true from SeqAt.eqv_refl _ (SeqAt.canLay_of_shaped (shaped_stand S))]
    exact fin H (Same.refl _)
  refine iteF' (decide_eq_false (fun z => q2 (by have := V.int.inj z; omega))) ?_
  -- what is told, and that it is right
  have q36 : q = 3 ∨ q = 4 ∨ q = 5 ∨ q = 6 := by omega
  refine ⟨fun σ G => Same H G ∧ ∃ tv, σ = [some (.ref p), some (.ref o), some (.ref hl), some (.int (q : Nat)), some (vPrice (priceOf ln wy S)), some tv, none] ∧
    ((q = 3 ∧ ((priceOf ln wy S = none ∧ tv = .non) ∨ ∃ n r xs R U, priceOf ln wy S = some n ∧ tv = .ref r ∧ H r = none ∧ RowAt G r xs R ∧ rowEnd ln wy S R = some U ∧ allOut U = true ∧ R.length = n)) ∨
     (q = 4 ∧ ((∃ n, priceOf ln wy S = some n ∧ tv = .non) ∨ ∃ r xs M, priceOf ln wy S = none ∧ tv = .ref r ∧ H r = none ∧ G r = some (.lst xs) ∧ ImAll G xs (M.map dSt) ∧ M.length ≤ 200000 ∧ S ∈ M ∧ Shut ln wy M)) ∨
     (q = 5 ∧ ∃ r, tv = .ref r ∧ H r = none ∧ G r = some (.lst (ln.map V.int))) ∨ (q = 6 ∧ ∃ r, tv = .ref r ∧ H r = none ∧ G r = some (.lst (wy.map fun b => V.str (wS b))))), ?_, fun σ G mid => ?_⟩
  · rcases q36 with rfl | rfl | rfl | rfl
    · refine ⟨.int 3, rfl, rfl, _, rfl, iteT' (decide_eq_true rfl) ⟨.ref p, rfl, p, dx, _, rfl, hp, rfl, Z, p, l1, ln, wy, S, sh, rfl, hy, ok, few, fun e H1 s1 => ?_, fun n H1 r xs R U e s1 hr' hR hU aU lR => ?_⟩⟩
      · exact ⟨s1, .non, rfl, .inl ⟨rfl, .inl ⟨e, rfl⟩⟩⟩
      · exact ⟨s1, .ref r, rfl, .inl ⟨rfl, .inr ⟨n, r, xs, R, U, e, rfl, hr', hR, hU, aU, lR⟩⟩⟩
    · refine ⟨.int 4, rfl, rfl, _, rfl, iteF' (decide_eq_false (by decide)) ⟨.int 4, rfl, rfl, _, rfl, iteT' (decide_eq_true rfl) ⟨.ref p, rfl, p, dx, _, rfl, hp, rfl, Z, p, l1, ln, wy, S, sh, rfl, hy, ok, few, fun n H1 e s1 => ?_, fun H1 r xs M e s1 hr' er ir zM hSM shM => ?_⟩⟩⟩
      · exact ⟨s1, .non, rfl, .inr (.inl ⟨rfl, .inl ⟨n, e, rfl⟩⟩)⟩
      · exact ⟨s1, .ref r, rfl, .inr (.inl ⟨rfl, .inr ⟨r, xs, M, e, rfl, hr', er, ir, zM, hSM, shM⟩⟩)⟩
    · refine ⟨.int 5, rfl, rfl, _, rfl, iteF' (decide_eq_false (by decide)) ⟨.int 5, rfl, rfl, _, rfl, iteF' (decide_eq_false (by decide)) ⟨.int 5, rfl, rfl, _, rfl, iteT' (decide_eq_true rfl) ⟨.ref p, rfl, p, dx, _, rfl, hp, rfl, Z, p, l1, ln, wy, S, sh, rfl, hy, fun H1 r s1 hr' er => ?_⟩⟩⟩⟩
      exact ⟨s1, .ref r, rfl, .inr (.inr (.inl ⟨rfl, r, rfl, hr', er⟩))⟩
    · refine ⟨.int 6, rfl, rfl, _, rfl, iteF' (decide_eq_false (by decide)) ⟨.int 6, rfl, rfl, _, rfl, iteF' (decide_eq_false (by decide)) ⟨.int 6, rfl, rfl, _, rfl, iteF' (decide_eq_false (by decide)) ⟨.ref p, rfl, p, dx, _, rfl, hp, rfl, Z, p, l1, ln, wy, S, sh, rfl, hy, fun H1 r s1 hr' er => ?_⟩⟩⟩⟩
      exact ⟨s1, .ref r, rfl, .inr (.inr (.inr ⟨rfl, r, rfl, hr', er⟩))⟩
  obtain ⟨s1, tv, rfl, td⟩ := mid
  have O1 := O.keep (Keep.of (Z := []) s1) (Ti.of s1) (fun _ h => nomatch h) (fun h => nomatch h) (fun h => nomatch h)
  refine ⟨fun σ G' => Same H G' ∧ ∃ tv, σ = [some (.ref p), some (.ref o), some (.ref hl), some (.int (q : Nat)), some (vPrice (priceOf ln wy S)), some tv, some (.bl true)] ∧ (tv = .non ∨ ∃ t xs, tv = .ref t ∧ H t = none ∧ G' t = some (.lst xs) ∧ ChOk G' q xs), ?_, fun σ G' mid => ?_⟩
  · rcases td with ⟨rfl, ⟨e, rfl⟩ | ⟨n, r, xs, R, U, e, rfl, hr', hR, hU, aU, lR⟩⟩ | ⟨rfl, ⟨n, e, rfl⟩ | ⟨r, xs, M, e, rfl, hr', er, ir, zM, hSM, shM⟩⟩ | ⟨rfl, r, rfl, hr', er⟩ | ⟨rfl, r, rfl, hr', er⟩
    · refine ⟨.int 3, rfl, rfl, _, rfl, iteT' (decide_eq_true rfl) ?_⟩
      rw [e]
      exact ⟨.non, rfl, rfl, _, rfl, iteT' (by simp) ⟨.non, rfl, rfl, _, rfl, iteT' (by simp [vPrice]) ⟨s1, .non, rfl, .inl rfl⟩⟩⟩
    · refine ⟨.int 3, rfl, rfl, _, rfl, iteT' (decide_eq_true rfl) ?_⟩
      rw [e]
      have e1 : G r = some (.lst xs) := hR.1
      have zR : R.length ≤ 200 := by have := price_most ok e; omega
      subst lR
      refine ⟨.ref r, rfl, rfl, _, rfl, iteF' (by simp) ⟨_, rfl, iteF' rfl ⟨.int R.length, rfl, rfl, _, rfl, iteT' (by simp) ⟨.ref o, rfl, .ref r, rfl, .int R.length, rfl, Z, o, lo, ln, wy, S, g, rf, kvs, wo, so, kd, ks, L, r, xs, R, U, rfl, O1, ok, hR, zR, hU, aU, fun H2 s2 => ?_⟩⟩⟩⟩
      have lx : xs.length = R.length := by rw [hR.2.length, List.length_map]
      exact ⟨s1.trans s2, .ref r, rfl, .inr ⟨r, xs, rfl, hr', s2 _ _ e1, .inr (.inr ⟨⟨by decide, by decide⟩, by omega, _, hR.2.mono (Ti.of s2), shaped_more (shaped_mvs R) (Nat.le_trans (lay_mvs R).2 (by decide)) (.go, 0)⟩)⟩⟩
    · refine ⟨.int 4, rfl, rfl, _, rfl, iteF' (decide_eq_false (by decide)) ⟨.int 4, rfl, rfl, _, rfl, iteT' (decide_eq_true rfl) ?_⟩⟩
      rw [e]
      exact ⟨.non, rfl, rfl, _, rfl, iteT' (by simp) ⟨.int n, rfl, rfl, _, rfl, iteT' (by simp) ⟨s1, .non, rfl, .inl rfl⟩⟩⟩
    · refine ⟨.int 4, rfl, rfl, _, rfl, iteF' (decide_eq_false (by decide)) ⟨.int 4, rfl, rfl, _, rfl, iteT' (decide_eq_true rfl) ?_⟩⟩
      rw [e]
      refine ⟨.ref r, rfl, rfl, _, rfl, iteF' (by simp) ⟨_, rfl, iteF' rfl ⟨.non, rfl, rfl, _, rfl, iteT' (by simp [vPrice]) ⟨.ref o, rfl, .ref r, rfl, Z, o, lo, ln, wy, S, g, rf, kvs, wo, so, kd, ks, L, r, xs, M, rfl, O1, ⟨er, ir⟩, zM, hSM, shM, fun H2 s2 => ?_⟩⟩⟩⟩
      have lx : xs.length = M.length := by rw [ir.length, List.length_map]
      exact ⟨s1.trans s2, .ref r, rfl, .inr ⟨r, xs, rfl, hr', s2 _ _ er, .inr (.inr ⟨⟨by decide, by decide⟩, by omega, _, ir.mono (Ti.of s2), shaped_more (shaped_stands M) (Nat.le_trans (depth_stands M) (by decide)) (.go, 0)⟩)⟩⟩
    · refine ⟨.int 5, rfl, rfl, _, rfl, iteF' (decide_eq_false (by decide)) ⟨.int 5, rfl, rfl, _, rfl, iteF' (decide_eq_false (by decide)) ?_⟩⟩
      refine ⟨.ref r, rfl, .ref r, .ty "list", .type "list", .type "list", true, rfl, .ty _, .base (.lst er), by rfl, _, rfl, iteT' rfl ⟨.ref r, rfl, .ref o, rfl, ?_⟩⟩
      refine ⟨two_size, fun l hl => ?_⟩
      have s2 := same_new (o := .lst [.str "lane", .str "ways"]) hl
      have el : (upd G l (.lst [.str "lane", .str "ways"])) l = some (.lst [.str "lane", .str "ways"]) := upd_same
      generalize upd G l (.lst [.str "lane", .str "ways"]) = G1 at s2 el
      refine ⟨.int 5, rfl, _, _, rfl, rfl, l, _, 0, .str "lane", rfl, rfl, .inl (.inl el), at0, o, .ref lo, rfl, dgV (s2 _ _ O1.at_) O.lane, dLane ln, dLane ln, .lst (.inl (.inl (s2 _ _ er))) (im_ints _).dp, .lst (.inl (.inl (s2 _ _ O1.hL))) (im_ints _).dp, shaped_lane ln, shaped_lane ln, ?_⟩
      rw [show PyData.eqv (dLane ln) (dLane ln) = true from SeqAt.eqv_refl _ (SeqAt.canLay_of_shaped (shaped_lane ln))]
      have h1l := ok.lane.one
      have h2l := ok.lane.most
      cases ln with
      | nil => simp at h1l
      | cons i is => exact ⟨s1.trans s2, .ref r, rfl, .inr ⟨r, _, rfl, hr', s2 _ _ er, .inl ⟨rfl, i, is, rfl, by simp at h2l; omega⟩⟩⟩
    · refine ⟨.int 6, rfl, rfl, _, rfl, iteF' (decide_eq_false (by decide)) ⟨.int 6, rfl, rfl, _, rfl, iteF' (decide_eq_false (by decide)) ?_⟩⟩
      refine ⟨.ref r, rfl, .ref r, .ty "list", .type "list", .type "list", true, rfl, .ty _, .base (.lst er), by rfl, _, rfl, iteT' rfl ⟨.ref r, rfl, .ref o, rfl, ?_⟩⟩
      refine ⟨two_size, fun l hl' => ?_⟩
      have s2 := same_new (o := .lst [.str "lane", .str "ways"]) hl'
      have el : (upd G l (.lst [.str "lane", .str "ways"])) l = some (.lst [.str "lane", .str "ways"]) := upd_same
      generalize upd G l (.lst [.str "lane", .str "ways"]) = G1 at s2 el
      refine ⟨.int 6, rfl, _, _, rfl, rfl, l, _, 1, .str "ways", rfl, rfl, .inl (.inl el), at1, o, .ref wo, rfl, dgV (s2 _ _ O1.at_) O.ways, dWays wy, dWays wy, .lst (.inl (.inl (s2 _ _ er))) (im_ways _).dp, .lst (.inl (.inl (s2 _ _ O1.hW))) (im_ways _).dp, shaped_ways wy, shaped_ways wy, ?_⟩
      rw [show PyData.eqv (dWays wy) (dWays wy) = true from SeqAt.eqv_refl _ (SeqAt.canLay_of_shaped (shaped_ways wy))]
      have h1l := ok.one
      have h2l := ok.most
      cases wy with
      | nil => simp at h1l
      | cons b bs => exact ⟨s1.trans s2, .ref r, rfl, .inr ⟨r, _, rfl, hr', s2 _ _ er, .inr (.inl ⟨rfl, b, bs, rfl, by simp at h2l; omega⟩)⟩⟩
  obtain ⟨s2, tv, rfl, td⟩ := mid
  rcases td with rfl | ⟨t, xs, rfl, ht, et, ch⟩
  · exact ⟨.bl true, rfl, true, rfl, iteT' rfl ⟨.non, rfl, rfl, false, rfl, iteF' rfl ⟨.bl true, rfl, fin _ s2⟩⟩⟩
  refine ⟨.bl true, rfl, true, rfl, iteT' rfl ⟨.ref t, rfl, rfl, true, rfl, iteT' rfl ?_⟩⟩
  refine ⟨.ref t, rfl, .int (q : Nat), rfl, t, q, xs, rfl, et, ch, fun H2 ys ds k2 ti2 et2 im2 sh2 z2 => ?_⟩
  have s3 : Same H H2 := fun a u e => k2.1 _ _ (s2 _ _ e) (fun z => by rw [List.mem_singleton.mp z, ht] at e; cases e)
  obtain ⟨ps, eh, zp, all⟩ := id hh
  have eh2 := s3 _ _ eh
  refine ⟨.ref hl, rfl, .inl ⟨rfl, _, .inl (.inl eh2)⟩, .ref t, rfl, .ref t, rfl, t, ys, rfl, .inl (.inl (.inl et2)), fun l hl' => ?_⟩
  have s4 := same_new (o := .lst ys) hl'
  have el : (upd H2 l (.lst ys)) l = some (.lst ys) := upd_same
  have s24 := s3.trans s4
  have lH : H l = none := s3.free hl'
  have et4 := s4 _ _ et2
  have ti4 := Ti.of s4
  generalize upd H2 l (.lst ys) = G4 at s4 el s24 et4 ti4
  refine ⟨two_size, nT_q fun G5 m5 s5 t5 => ?_⟩
  refine ⟨hl, ps.map V.ref, .ref m5, rfl, rfl, s5 _ _ (s24 _ _ eh), ?_, ?_⟩
  · rw [List.length_map]
    exact Nat.lt_of_le_of_lt (by omega : _ ≤ 10000) (by decide)
  refine ⟨.bl true, rfl, ?_⟩
  have s6 := s24.trans s5
  have eh6 := s6 _ _ eh
  have tl := Ti.lst (o := .lst (ps.map V.ref ++ [.ref m5])) eh6
  have nt : ∀ a, H a = none → a ≠ hl := fun a e z => by rw [z, eh] at e; cases e
  refine k _ ((Keep.of s6).upd (List.mem_singleton.mpr rfl)) ((Ti.of s6).trans tl) ⟨ps ++ [m5], by rw [upd_same, List.map_append]; rfl, by rw [List.length_append, List.length_singleton]; omega, fun x hx => ?_⟩
  rcases List.mem_append.mp hx with hx | hx
  · obtain ⟨t', c', xs', ds', h1, ⟨h2, n2⟩, ⟨h3, n3⟩, h4, h5⟩ := all x hx
    have tiA := (Ti.of s6).trans tl
    exact ⟨t', c', xs', ds', tiA _ _ h1, ⟨by rw [upd_ne (fun z => n2 (by rw [z]; exact hlZ))]; exact s6 _ _ h2, n2⟩, ⟨by rw [upd_ne (fun z => n3 (by rw [z]; exact hlZ))]; exact s6 _ _ h3, n3⟩, h4.mono tiA, h5⟩
  · obtain rfl := List.mem_singleton.mp hx
    refine ⟨t, l, ys, ds, tl _ _ t5, ⟨by rw [upd_ne (nt t ht)]; exact s5 _ _ et4, fun z => hZ t z ht⟩, ⟨by rw [upd_ne (nt l lH)]; exact s5 _ _ el, fun z => hZ l z lH⟩, im2.mono (ti4.trans ((Ti.of s5).trans tl)), sh2⟩
end
end Slx

set_option Elab.async false
set_option linter.all false
set_option maxRecDepth 100000
set_option maxHeartbeats 4000000
namespace Slx
open PySem PySem.Spec PyProof.Rows L2 Sl
section
variable {P : Program} {w : World} {K : PySem.W.Frag} {mg : Str → Option Value} {base : Heap}
theorem Ti.of_keep_upd {H : Hp} {p : Addr} {o : HO} (h : H p = none) : Ti H (upd H p o) := Ti.new h
/-- what _law_kind is asked in a suite -/
def spKindT (C : Er → Addr) (a : Addr) (cls : Value) (d : Option Addr) : List V → Hp → VK → Prop := fun vs H Q => ∃ x : Er, cls = .ref (C x) ∧ d = none ∧ vs = [.ref a] ∧ ∀ H' r, Same H H' → H r = none → H' r = some (.lst [.str x.word, .str "value"]) → Q (.ref r) H'
/-- a deed tried -/
def TriedDo (K : PySem.W.Frag) (CY : Addr) (M : List Addr) (H : Hp) (p l1 : Addr) (ln : List Int) (wy : List Bool) (S : Stand) (x : V) (Q : VK) : Prop :=
  (∃ pm m sp, x = .ref pm ∧ MoveAt H pm m ∧ m.2 < S.length ∧ (m, sp) ∈ choices ln wy S m.2 ∧ ∀ H' l, Keep [p] H H' → Ti H H' → H l = none → YAt CY M H' p l1 ln wy (S.set m.2 sp) none → H' l = some (.lst [.non]) → Q (.ref l) H') ∨
  (NoMv K H ln wy S x ∧ ∀ H' l, Same H H' → H l = none → H' l = some (.lst [.str "move", .str "value"]) → Q (.ref l) H')
def TriedLonger (K : PySem.W.Frag) (CY : Addr) (M : List Addr) (H : Hp) (p l1 : Addr) (ln : List Int) (wy : List Bool) (S : Stand) (x : V) (Q : VK) : Prop :=
  (∃ k : Nat, x = .int (k : Nat) ∧ k < ln.length ∧ ln.getD k 0 ≠ 4 ∧ ∀ H' l, Keep [p, l1] H H' → Ti H H' → H l = none → YAt CY M H' p l1 (ln.set k (ln.getD k 0 + 1)) wy S (some ln) → H' l = some (.lst [.non]) → Q (.ref l) H') ∨
  (((∃ k : Nat, x = .int (k : Nat) ∧ k < ln.length ∧ ln.getD k 0 = 4) ∨ (∃ Tn, TyB K H x Tn ∧ isNum x 0 ((ln.length : Int) - 1) = false)) ∧ ∀ H' l, Same H H' → H l = none → H' l = some (.lst [.str "place", .str "value"]) → Q (.ref l) H')
def spTried (K : PySem.W.Frag) (CY : Addr) : Sp := fun vs H Q _ => ∃ (M : List Addr) (p l1 : Addr) (ln : List Int) (wy : List Bool) (S : Stand) (sh : Option (List Int)) (wd : Str) (x : V), vs = [.ref p, .str wd, x] ∧ YAt CY M H p l1 ln wy S sh ∧ OkStand ln wy S ∧ (l1 ∈ M ∧ ∀ a ∈ M, H a ≠ none) ∧
  ((wd = "do" ∧ TriedDo K CY M H p l1 ln wy S x Q) ∨ (wd = "longer" ∧ TriedLonger K CY M H p l1 ln wy S x Q))
theorem ok_lTried (T : Txt K mg) {CY : Addr} (Y : Yrd K mg CY) : DefOk P w K mg base 7 "_law_tried" ["_law_yard", "_law_word", "_law_thing"] (spTried K CY) := by
  obtain ⟨L, C, E⟩ := T.errs
  have MD : MetR P w K mg base CY 6 "do" (spYDo K C CY) := ok_yDo T E Y
  have ML : MetR P w K mg base CY 2 "longer" (spYLonger K C CY) := ok_yLonger T E Y
  refine T.f_lTried.ok sc_lTried (fun vs H Q E h => by obtain ⟨M, p, l1, ln, wy, S, sh, wd, x, rfl, _⟩ := h; rfl) (fun f cdv A outer s H vs Q XE hr h => ?_)
  obtain ⟨M, p, l1, ln, wy, S, sh, wd, x, rfl, hy, ok, hM, h⟩ := h
  obtain ⟨fk, fdk, Fk, gk, bk⟩ := T.f_lKind.ex
  have KP : FnP P w K mg base CX0 1 fk fdk ["_law_e"] (spKind K C) := ok_lKind T E Fk
  refine ⟨_, pss_one (L2N.ps_try_as (i := 3) (ts := fun a cls d => fun D σ H => tRet (fun σ H Q => (tCons (tVar 3) tNil) σ H fun vs H1 => spKindT C a cls d vs H1 Q) D σ H) rfl rfl sc_lTried.nd rfl rfl ⟨rfl, by decide, .inl E.gL⟩ takesN0
      (fun W pn xe tk _ => pss_cons (ps_if (pt_cmpR op_eq (pv 1) pe_str (nomark _))
          (pss_one (ps_ret (pe_lst (pa_cons (pe_metS Y.cl MD tk (hr.mono (by omega)) (pv 0) (pa_cons (pv 2) pa_nil)) pa_nil)))) pss_nil)
        (pss_one (ps_ret (pe_lst (pa_cons (pe_metS Y.cl ML tk (hr.mono (by omega)) (pv 0) (pa_cons (pv 2) pa_nil)) pa_nil)))))
      (fun a oe cls d pn hz hf => pss_one (ps_ret (pe_callP (sp' := spKindT C a cls d) KP ⟨(hr.mono (by omega) : Room 1 _).dp, (hr.mono (by omega) : Room 1 _).un⟩ (suite_hot hz hf) (List.mem_cons_self ..) (by rfl) gk Fk.kp bk pass0 (fun vs H Q ⟨x, e1, e2, e3, q⟩ => ⟨x, e3, ⟨e1 ▸ hz.1, e2 ▸ hz.2.1⟩, hf, q⟩) (pa_cons (pv 3) pa_nil))))), ?_⟩
  obtain ⟨dx, l2, c, shv, hp, h1, h2, hS, hsh⟩ := id hy
  rcases h with ⟨rfl, h⟩ | ⟨rfl, h⟩
  · refine ⟨.str "do", rfl, rfl, _, rfl, iteT' (decide_eq_true rfl) ?_⟩
    refine ⟨.ref p, rfl, p, dx, _, rfl, hp, rfl, x, rfl, M, p, l1, ln, wy, S, sh, x, rfl, hy, ok, ?_⟩
    rcases h with ⟨pm, m, sp, rfl, hm, hk, hch, q⟩ | ⟨no, q⟩
    · refine .inl ⟨pm, m, sp, rfl, hm, hk, hch, fun H1 k1 t1 y1 => ⟨one_size, fun l hl => ?_⟩⟩
      have s2 := same_new (o := .lst [.non]) hl
      have hl0 : H l = none := by
        cases e : H l with
        | none => rfl
        | some o => exact absurd hl (k1.2 l (by rw [e]; exact fun z => nomatch z))
      exact q _ l (k1.trans (Keep.of s2)) (t1.trans (Ti.of s2)) hl0 (y1.same s2) upd_same
    · refine .inr ⟨no, fun H1 s1 => ⟨true, E.caught .move, fun _ e he => ?_, fun z => nomatch z⟩⟩
      exact ⟨.ref e, rfl, .move, rfl, rfl, rfl, fun H2 r s2 hr' er => q H2 r (s1.trans s2) (s1.free hr') er⟩
  · refine ⟨.str "longer", rfl, rfl, _, rfl, iteF' (decide_eq_false (by decide)) ?_⟩
    refine ⟨.ref p, rfl, p, dx, _, rfl, hp, rfl, x, rfl, M, p, l1, ln, wy, S, sh, x, rfl, hy, ok.lane, hM, ?_⟩
    rcases h with ⟨k, rfl, hk, h4, q⟩ | ⟨bad, q⟩
    · refine .inl ⟨k, rfl, hk, h4, fun H1 k1 t1 y1 => ⟨one_size, fun l hl => ?_⟩⟩
      have s2 := same_new (o := .lst [.non]) hl
      have hl0 : H l = none := by
        cases e : H l with
        | none => rfl
        | some o => exact absurd hl (k1.2 l (by rw [e]; exact fun z => nomatch z))
      exact q _ l (k1.trans (Keep.of s2)) (t1.trans (Ti.of s2)) hl0 (y1.same s2) upd_same
    · have fin : ∀ H', Same H H' → ∃ b, PySem.W.exmOne K (.ref (C .place)) (.ref L) = some b ∧ True := fun H' s' => ⟨true, E.caught .place, trivial⟩
      rcases bad with ⟨k, rfl, hk, h4⟩ | ⟨Tn, ty, e⟩
      · refine .inr (.inl ⟨k, rfl, hk, h4, fun H1 s1 => ⟨true, E.caught .place, fun _ e he => ?_, fun z => nomatch z⟩⟩)
        exact ⟨.ref e, rfl, .place, rfl, rfl, rfl, fun H2 r s2 hr' er => q H2 r (s1.trans s2) (s1.free hr') er⟩
      · refine .inr (.inr ⟨Tn, ty, e, fun H1 s1 => ⟨true, E.caught .place, fun _ e he => ?_, fun z => nomatch z⟩⟩)
        exact ⟨.ref e, rfl, .place, rfl, rfl, rfl, fun H2 r s2 hr' er => q H2 r (s1.trans s2) (s1.free hr') er⟩
end
end Slx

/-! The mathematics of a longer siding: what was allowed is allowed still. -/
set_option autoImplicit false
namespace Sl
structure Longer (ln lo : List Int) : Prop where
  len : lo.length = ln.length
  more : ∀ i, ln.getD i 0 ≤ lo.getD i 0
theorem Longer.most {ln lo : List Int} (h : Longer ln lo) (s : Spot) : mostAt ln s ≤ mostAt lo s := by
  cases s with
  | lane p => exact Int.le_refl _
  | side p => exact h.more p
  | out => exact Int.le_refl _
theorem Longer.room {ln lo : List Int} (h : Longer ln lo) {S : Stand} {s : Spot} (r : hasRoom ln S s = true) : hasRoom lo S s = true := by
  have := of_decide_eq_true r
  have := h.most s
  exact decide_eq_true (by omega)
theorem Longer.ahead {ln lo : List Int} (h : Longer ln lo) (r : Bool) (p : Nat) : spotAhead lo r p = spotAhead ln r p := by
  unfold spotAhead
  rw [h.len]
theorem Longer.choices {ln lo : List Int} (h : Longer ln lo) {wy : List Bool} {S : Stand} {k : Nat} {c : Mv × Spot} (hc : c ∈ choices ln wy S k) : c ∈ choices lo wy S k := by
  unfold Sl.choices at hc ⊢
  split at hc
  · simp at hc
  · rename_i p hp
    rw [h.ahead]
    rcases List.mem_append.mp hc with q | q
    · split at q
      · rename_i hr
        exact List.mem_append.mpr (.inl (by rw [if_pos (h.room hr)]; exact q))
      · simp at q
    · split at q
      · rename_i hr
        exact List.mem_append.mpr (.inr (by rw [if_pos (h.room hr)]; exact q))
      · simp at q
  · rename_i p hp
    rw [h.ahead]
    split at hc
    · rename_i hr
      rw [if_pos (h.room hr)]
      exact hc
    · simp at hc
theorem Longer.pairs {ln lo : List Int} (h : Longer ln lo) {wy : List Bool} {S : Stand} {c : Mv × Spot} (hc : c ∈ allPairs ln wy S) : c ∈ allPairs lo wy S := by
  obtain ⟨k, hk, hck⟩ := mem_pairs.mp hc
  exact mem_pairs.mpr ⟨k, hk, h.choices hck⟩
theorem Longer.behinds {ln lo : List Int} (h : Longer ln lo) {wy : List Bool} {S T : Stand} (hT : T ∈ behinds ln wy S) : T ∈ behinds lo wy S := by
  obtain ⟨c, hc, rfl⟩ := List.mem_map.mp hT
  exact List.mem_map.mpr ⟨c, h.pairs hc, rfl⟩
theorem Longer.reach {ln lo : List Int} (h : Longer ln lo) {wy : List Bool} {S T : Stand} (r : Reach ln wy S T) : Reach lo wy S T := by
  induction r with
  | here => exact .here
  | on _ hU ih => exact .on ih (h.behinds hU)
theorem Longer.through {ln lo : List Int} (h : Longer ln lo) {wy : List Bool} {S : Stand} {n : Nat} (t : Through ln wy S n) : Through lo wy S n := by
  induction t with
  | out a => exact .out a
  | on hT _ ih => exact .on (h.behinds hT) ih
theorem Longer.behindMv {ln lo : List Int} (h : Longer ln lo) {wy : List Bool} {S T : Stand} {m : Mv} (b : behindMv ln wy S m = some T) : behindMv lo wy S m = some T := by
  obtain ⟨s, hs, rfl⟩ := behindMv_some b
  exact behindMv_of (h.pairs hs)
theorem Longer.rowEnd {ln lo : List Int} (h : Longer ln lo) {wy : List Bool} : ∀ {R : List Mv} {S T : Stand}, rowEnd ln wy S R = some T → rowEnd lo wy S R = some T
  | [], _, _, e => e
  | m :: R, S, T, e => by
    simp only [Sl.rowEnd] at e ⊢
    cases b : Sl.behindMv ln wy S m with
    | none => rw [b] at e; cases e
    | some U =>
      rw [b] at e
      rw [h.behindMv b]
      exact h.rowEnd e
theorem Longer.ok {ln lo : List Int} (h : Longer ln lo) (l : OkLane lo) {wy : List Bool} {S : Stand} (o : OkStand ln wy S) : OkStand lo wy S := by
  refine ⟨l, o.one, o.most, o.len, fun s hs => ?_, fun s hs => ?_⟩
  · have := o.spot s hs
    have e := h.len
    cases s with
    | lane p => show p < lo.length; rw [e]; exact this
    | side p => show p < lo.length; rw [e]; exact this
    | out => trivial
  · exact Int.le_trans (o.room s hs) (h.most s)
/-- no price grows -/
theorem Longer.price {ln lo : List Int} (h : Longer ln lo) (l : OkLane lo) {wy : List Bool} {S : Stand} {n : Nat} (o : OkStand ln wy S) (e : priceOf ln wy S = some n) : ∃ m, priceOf lo wy S = some m ∧ m ≤ n :=
  price_through n (h.ok l o) (h.through (through_of o e))
/-- a closed set without a way out of it on the longer lane stays one: so its stands stay shut -/
theorem closed_shut {ln : List Int} {wy : List Bool} {M : List Stand} (next : ∀ T ∈ M, ∀ U ∈ behinds ln wy T, U ∈ M) (no : ∀ T ∈ M, allOut T = false) : ∀ (n : Nat) {S : Stand}, S ∈ M → ¬ Through ln wy S n
  | 0, S, hS, t => by
    cases t with
    | out a => rw [no S hS] at a; cases a
  | n + 1, S, hS, t => by
    cases t with
    | on hT ht => exact closed_shut next no n (next S hS _ hT) ht
theorem closed_none {ln : List Int} {wy : List Bool} {M : List Stand} {S : Stand} (o : OkStand ln wy S) (hS : S ∈ M) (next : ∀ T ∈ M, ∀ U ∈ behinds ln wy T, U ∈ M) (no : ∀ T ∈ M, allOut T = false) : priceOf ln wy S = none :=
  (shut o).mpr fun n => closed_shut next no n hS
end Sl

set_option Elab.async false
set_option linter.all false
set_option maxRecDepth 100000
set_option maxHeartbeats 4000000
namespace Slx
open PySem PySem.Spec PyProof.Rows L2 Sl
/-- the law's own dict, key by key -/
def okv (l y s g r k m : V) : List (Key × V) := [(.inr "lane", l), (.inr "ways", y), (.inr "stand", s), (.inr "gained", g), (.inr "refused", r), (.inr "known", k), (.inr "many", m)]
theorem okv_known (l y s g r k m v : V) : putK (okv l y s g r k m) (.inr "known") v = okv l y s g r v m := rfl
theorem okv_gained (l y s g r k m v : V) : putK (okv l y s g r k m) (.inr "gained") v = okv l y s v r k m := rfl
theorem okv_many (l y s g r k m v : V) : putK (okv l y s g r k m) (.inr "many") v = okv l y s g r k v := rfl
theorem okv_stand (l y s g r k m v : V) : putK (okv l y s g r k m) (.inr "stand") v = okv l y v g r k m := rfl
theorem okv_refused (l y s g r k m v : V) : putK (okv l y s g r k m) (.inr "refused") v = okv l y s g v k m := rfl
section
variable {P : Program} {w : World} {K : PySem.W.Frag} {mg : Str → Option Value} {base : Heap}
/-- the law's own dict as it is written -/
abbrev OKv (P : Program) (w : World) (M : List Addr) (H : Hp) (o lo : Addr) (ln : List Int) (wy : List Bool) (S : Stand) (g : Int) (rf : V) (wo so kd : Addr) (ks : List Ent) (L : List Stand) : Prop :=
  OAt P w M H o lo ln wy S g rf (okv (.ref lo) (.ref wo) (.ref so) (.int g) rf (.ref kd) (.int (L.length : Nat))) wo so kd ks L
/-- a yard and what the law keeps of it -/
structure SideAt (P : Program) (w : World) (CY : Addr) (Z : List Addr) (H : Hp) (p l1 o lo : Addr) (ln : List Int) (wy : List Bool) (S : Stand) : Prop where
  ex : ∃ (sh : Option (List Int)) (g : Int) (rf : V) (wo so kd : Addr) (ks : List Ent) (L : List Stand), YAt CY Z H p l1 ln wy S sh ∧ OKv P w Z H o lo ln wy S g rf wo so kd ks L ∧ OkSh wy S sh ∧ GainedBy ln wy S g sh
  ok : OkStand ln wy S
  few : Few ln S
theorem SideAt.keep {CY : Addr} {M Z : List Addr} {H H' : Hp} {p l1 o lo : Addr} {ln : List Int} {wy : List Bool} {S : Stand} (k : Keep Z H H') (t : Ti H H') (z : ∀ a ∈ Z, a ∈ M) (n : p ∉ Z ∧ l1 ∉ Z ∧ o ∉ Z ∧ lo ∉ Z) (h : SideAt P w CY M H p l1 o lo ln wy S) : SideAt P w CY M H' p l1 o lo ln wy S := by
  obtain ⟨⟨sh, g, rf, wo, so, kd, ks, L, hy, ho, h1, h2⟩, ok, few⟩ := h
  exact ⟨⟨sh, g, rf, wo, so, kd, ks, L, hy.keep k t z n.1 n.2.1, ho.keep k t z n.2.2.1 n.2.2.2, h1, h2⟩, ok, few⟩
theorem HeldAt.up {M : List Addr} {H : Hp} {hl : Addr} {m n : Nat} (h : HeldAt M H hl m) (l : m ≤ n) : HeldAt M H hl n := by
  obtain ⟨ps, e, l', all⟩ := h
  exact ⟨ps, e, by omega, all⟩
theorem Keep.refl {Z : List Addr} {H : Hp} : Keep Z H H := Keep.of (Same.refl _)
theorem Ti.odict {H : Hp} {a : Addr} {ks : List (Key × V)} {o : HO} (h : H a = some (.dK ks)) : Ti H (upd H a o) := fun x zs ⟨u, e1, e2⟩ => ⟨u, by rw [upd_ne (fun z => by rw [z, h] at e1; cases e1)]; exact e1, e2⟩
def spLooked (P : Program) (w : World) (CY : Addr) : Sp := fun vs H Q _ => ∃ (Z : List Addr) (p l1 o lo : Addr) (ln : List Int) (wy : List Bool) (S : Stand) (hl : Addr) (m : Nat) (ce : Int),
  vs = [.ref p, .ref o, .ref hl, .int ce] ∧ SideAt P w CY Z H p l1 o lo ln wy S ∧ HeldAt Z H hl m ∧ (hl ∈ Z ∧ ∀ a ∈ Z, H a ≠ none) ∧ (p ≠ hl ∧ l1 ≠ hl ∧ o ≠ hl ∧ lo ≠ hl) ∧ m ≤ 9000 ∧
  ∀ H', Keep [hl] H H' → Ti H H' → HeldAt Z H' hl (m + 9) → Q (.bl true) H'
theorem seven_size {l y s g r k m : V} : (okv l y s g r k m).length < sizeLine := by show 7 < sizeLine; decide
theorem seven (i : Int) : ∃ q : Nat, i % 7 = (q : Nat) ∧ q ≤ 6 := ⟨(i % 7).toNat, by omega, by omega⟩
theorem ok_lLooked (T : Txt K mg) {CY : Addr} (Y : Yrd K mg CY) : DefOk P w K mg base 10 "_law_looked" ["_law_yard", "_law_own_here", "_law_held", "_law_cell"] (spLooked P w CY) := by
  have D_lAnswer : DefOk P w K mg base 9 "_law_answer" ["_law_yard", "_law_own_here", "_law_held", "_law_question"] (spAnswer P w CY) := ok_lAnswer T Y
  refine T.f_lLooked.ok sc_lLooked (fun vs H Q E h => by obtain ⟨Z, p, l1, o, lo, ln, wy, S, hl, m, ce, rfl, _⟩ := h; rfl) (fun f cdv A outer s H vs Q E hr h => ?_)
  obtain ⟨Z, p, l1, o, lo, ln, wy, S, hl, m, ce, rfl, hs, hh, ⟨hlZ, hZ⟩, ⟨np, nl1, no, nlo⟩, zm, k⟩ := h
  refine ⟨_, (pss_cons (ps_for PassesOwn.never rfl (pi_range1 (by rfl) T.b_range (pa_cons (pe_op op_mod (pv 3) pe_int) pa_nil)) (pg_name (i := 4) sc_lLooked.nd rfl (.inl rfl)) (pss_one (ps_if (pt_not (pt_val (pe_def D_lAnswer (hr.mono (by omega)) (pa_cons (pv 0) (pa_cons (pv 1) (pa_cons (pv 2) (pa_cons (pe_op op_mod (pe_op op_add (pe_op op_fdiv (pv 3) pe_int) (pe_op op_mul (pv 4) (pe_op op_add pe_int (pe_op op_mod (pe_op op_fdiv (pv 3) pe_int) pe_int)))) pe_int) pa_nil))))))) (pss_one (ps_ret pe_bl)) pss_nil)))
      (pss_one (ps_ret pe_bl))), ?_⟩
  have c1 : 0 ≤ ce % 9 := by omega
  have c2 : ce % 9 ≤ 8 := by omega
  refine ⟨.int ce, rfl, _, _, rfl, rfl, (by decide : (0 : Int) < 9), ce % 9, rfl, by omega, by omega, ?_⟩
  refine for_it (walk_range (lo := 0) (n := (ce % 9).toNat)) (fun i σ G => Keep [hl] H G ∧ Ti H G ∧ HeldAt Z G hl (m + i) ∧ ∃ (y4 : Option V), σ = [some (.ref p), some (.ref o), some (.ref hl), some (.int ce), y4])
    ⟨Keep.refl, Ti.refl _, hh, none, rfl⟩ (fun _ _ _ _ _ => trivial) (fun i x σ G G' hi q y => ?_) (fun σ G q => ?_)
  · obtain ⟨k1, t1, h1, y4, rfl⟩ := q
    obtain ⟨rfl, rfl⟩ := y
    have sub : ∀ a ∈ [hl], a ∈ Z := fun a ha => by rw [List.mem_singleton.mp ha]; exact hlZ
    have hs1 := hs.keep k1 t1 sub ⟨by simpa using np, by simpa using nl1, by simpa using no, by simpa using nlo⟩
    obtain ⟨⟨sh, g, rf, wo, so, kd, ks, L, hy, ho, oks, hg⟩, ok, few⟩ := hs1
    have ei : (i : Int) < ce % 9 := by omega
    refine ⟨.ref p, rfl, .ref o, rfl, .ref hl, rfl, .int ce, rfl, _, _, rfl, rfl, (by decide : (0 : Int) < 9 ∧ _), .int (0 + (i : Int)), rfl, .int ce, rfl, _, _, rfl, rfl, (by decide : (0 : Int) < 63 ∧ _), _, _, rfl, rfl, (by decide : (0 : Int) < 6), _, _, rfl, rfl, _, _, rfl, rfl, .inl ⟨by omega, by omega⟩, _, _, rfl, rfl, _, _, rfl, rfl, (by decide : (0 : Int) < 7), ?_⟩
    obtain ⟨q, eq, hq⟩ := seven (ce / 9 + (0 + (i : Int)) * (1 + ce / 63 % 6))
    refine ⟨Z, p, l1, sh, o, lo, ln, wy, S, g, rf, _, wo, so, kd, ks, L, hl, m + i, q, by show [V.ref p, V.ref o, V.ref hl, V.int ((ce / 9 + (0 + (i : Int)) * (1 + ce / 63 % 6)) % 7)] = _; rw [eq], hq, hy, ho, h1, ok, few, oks, hg, ⟨hlZ, fun a ha => k1.2 a (hZ a ha)⟩, by omega, fun G2 k2 t2 h2 => ⟨true, rfl, iteF' rfl ?_⟩⟩
    exact ⟨k1.trans k2, t1.trans t2, h2, _, rfl⟩
  · obtain ⟨k1, t1, h1, y4, rfl⟩ := q
    exact k _ k1 t1 (h1.up (by omega))
def spRenewed (P : Program) (w : World) : Sp := fun vs H Q _ => ∃ (Z : List Addr) (o lo wo so : Addr) (ln : List Int) (wy : List Bool) (S : Stand) (gi n : Int) (gv kv rf : V),
  vs = [.ref o, .int gi] ∧ H o = some (.dK (okv (.ref lo) (.ref wo) (.ref so) gv rf kv (.int n))) ∧ H lo = some (.lst (ln.map V.int)) ∧ (H wo = some (.lst (wy.map fun b => V.str (wS b))) ∧ wo ∉ Z) ∧ StandAt H so S ∧ OkStand ln wy S ∧ Few ln S ∧ RefOk Z H rf ∧ (o ∈ Z ∧ ∀ a ∈ Z, H a ≠ none) ∧ (-(2 ^ 64) < gi ∧ gi < 2 ^ 64) ∧
  ∀ H' kd ks L, Keep [o] H H' → Ti H H' → OKv P w Z H' o lo ln wy S (gi * ((L.length : Nat) - n)) rf wo so kd ks L → Q .non H'
theorem ok_lRenewed (T : Txt K mg) : DefOk P w K mg base 4 "_law_renewed" ["_law_own_here", "_law_gained"] (spRenewed P w) := by
  have D_lKnown : DefOk P w K mg base 3 "_law_known" ["_law_lane", "_law_ways", "_law_stand"] (spLKnown P w K) := ok_lKnown T
  refine T.f_lRenewed.ok sc_lRenewed (fun vs H Q E h => by obtain ⟨Z, o, lo, wo, so, ln, wy, S, gi, n, gv, kv, rf, rfl, _⟩ := h; rfl) (fun f cdv A outer s H vs Q E hr h => ?_)
  obtain ⟨Z, o, lo, wo, so, ln, wy, S, gi, n, gv, kv, rf, rfl, eo, el, ⟨ew, nw⟩, hS, ok, few, hrf, ⟨oZ, hZ⟩, hgi, k⟩ := h
  refine ⟨_, (pss_cons (ps_dput (hu_of hr) (pv 0) pe_str (pe_def D_lKnown (hr.mono (by omega)) (pa_cons (pe_dget (hu_of hr) (pv 0) pe_str (fun _ _ => rfl)) (pa_cons (pe_dget (hu_of hr) (pv 0) pe_str (fun _ _ => rfl)) (pa_cons (pe_dget (hu_of hr) (pv 0) pe_str (fun _ _ => rfl)) pa_nil)))) (by rfl))
      (pss_cons (ps_dput (hu_of hr) (pv 0) pe_str (pe_op op_mul (pv 1) (pe_op op_sub (pe_callB (call_lenN (P := P) (w := w)) (by rfl) T.b_len (by decide +kernel) (pa_cons (pe_dget (hu_of hr) (pv 0) pe_str (fun _ _ => rfl)) pa_nil)) (pe_dget (hu_of hr) (pv 0) pe_str (fun _ _ => rfl)))) (by rfl))
      (pss_one (ps_dput (hu_of hr) (pv 0) pe_str (pe_callB (call_lenN (P := P) (w := w)) (by rfl) T.b_len (by decide +kernel) (pa_cons (pe_dget (hu_of hr) (pv 0) pe_str (fun _ _ => rfl)) pa_nil)) (by rfl))))), ?_⟩
  refine ⟨.ref o, rfl, o, .ref lo, rfl, dgV eo rfl, .ref o, rfl, o, .ref wo, rfl, dgV eo rfl, .ref o, rfl, o, .ref so, rfl, dgV eo rfl, lo, wo, so, ln, wy, S, rfl, .inl (.inl el), .inl (.inl ew), hS, ok, few, fun H1 d ks L s1 hd kn => ?_⟩
  have nq : ∀ a, a ≠ o → ∀ v, upd H1 o v a = H1 a := fun a h v => upd_ne h
  refine ⟨.ref o, rfl, o, _, rfl, .k (k := .inr "known") (s1 _ _ eo) seven_size, ?_⟩
  rw [okv_known]
  have no : ∀ a u, H a = some u → a ≠ o → upd H1 o (.dK (okv (.ref lo) (.ref wo) (.ref so) gv rf (.ref d) (.int n))) a = some u := fun a u e h => by rw [upd_ne h]; exact s1 _ _ e
  have nd : d ≠ o := fun z => by rw [z, eo] at hd; cases hd
  have k2 : Keep [o] H (upd H1 o (.dK (okv (.ref lo) (.ref wo) (.ref so) gv rf (.ref d) (.int n)))) := (Keep.of s1).upd (List.mem_singleton.mpr rfl)
  have t2 : Ti H1 (upd H1 o (.dK (okv (.ref lo) (.ref wo) (.ref so) gv rf (.ref d) (.int n)))) := Ti.odict (s1 _ _ eo)
  have kn2 : KnownD P w ln wy S (upd H1 o (.dK (okv (.ref lo) (.ref wo) (.ref so) gv rf (.ref d) (.int n)))) d ks L := kn.keep (Keep.refl.upd (List.mem_singleton.mpr rfl)) t2 (fun z => nd (List.mem_singleton.mp z))
  have e2 : (upd H1 o (.dK (okv (.ref lo) (.ref wo) (.ref so) gv rf (.ref d) (.int n)))) o = some (.dK (okv (.ref lo) (.ref wo) (.ref so) gv rf (.ref d) (.int n))) := upd_same
  generalize upd H1 o (.dK (okv (.ref lo) (.ref wo) (.ref so) gv rf (.ref d) (.int n))) = H2 at no k2 t2 kn2 e2
  have lk : ks.length = L.length := kn.of.len
  refine ⟨.int gi, rfl, .ref o, rfl, o, .ref d, rfl, dgV e2 rfl, d, ks, rfl, kn2.dn.rd, .ref o, rfl, o, .int n, rfl, dgV e2 rfl, _, _, rfl, rfl, _, _, rfl, rfl, .inl hgi, .ref o, rfl, o, _, rfl, .k (k := .inr "gained") e2 seven_size, ?_⟩
  dsimp only
  rw [okv_gained]
  have e3 : (upd H2 o (.dK (okv (.ref lo) (.ref wo) (.ref so) (.int (gi * ((ks.length : Nat) - n))) rf (.ref d) (.int n)))) o = some (.dK (okv (.ref lo) (.ref wo) (.ref so) (.int (gi * ((ks.length : Nat) - n))) rf (.ref d) (.int n))) := upd_same
  have t3 : Ti H2 (upd H2 o (.dK (okv (.ref lo) (.ref wo) (.ref so) (.int (gi * ((ks.length : Nat) - n))) rf (.ref d) (.int n)))) := Ti.odict e2
  have k3 : Keep [o] H2 (upd H2 o (.dK (okv (.ref lo) (.ref wo) (.ref so) (.int (gi * ((ks.length : Nat) - n))) rf (.ref d) (.int n)))) := Keep.refl.upd (List.mem_singleton.mpr rfl)
  generalize upd H2 o (.dK (okv (.ref lo) (.ref wo) (.ref so) (.int (gi * ((ks.length : Nat) - n))) rf (.ref d) (.int n))) = H3 at e3 t3 k3
  have ndo : d ∉ [o] := fun z => nd (List.mem_singleton.mp z)
  have kn3 := kn2.keep k3 t3 ndo
  refine ⟨.ref o, rfl, o, .ref d, rfl, dgV e3 rfl, d, ks, rfl, kn3.dn.rd, .ref o, rfl, o, _, rfl, .k (k := .inr "many") e3 seven_size, ?_⟩
  rw [okv_many, lk]
  have t4 : Ti H3 (upd H3 o (.dK (okv (.ref lo) (.ref wo) (.ref so) (.int (gi * ((L.length : Nat) - n))) rf (.ref d) (.int (L.length : Nat))))) := Ti.odict e3
  have k4 : Keep [o] H3 (upd H3 o (.dK (okv (.ref lo) (.ref wo) (.ref so) (.int (gi * ((L.length : Nat) - n))) rf (.ref d) (.int (L.length : Nat))))) := Keep.refl.upd (List.mem_singleton.mpr rfl)
  have kA := (k2.trans k3).trans k4
  have tA := ((Ti.of s1).trans t2).trans (t3.trans t4)
  have sub : ∀ a ∈ [o], a ∈ Z := fun a ha => by rw [List.mem_singleton.mp ha]; exact oZ
  have lon : lo ≠ o := fun z => by rw [z, eo] at el; cases el
  refine k _ d ks L kA tA ⟨upd_same, Nat.le_refl 7, rfl, rfl, rfl, rfl, rfl, rfl, rfl, kA.1 _ _ el (fun z => lon (List.mem_singleton.mp z)), kA.1 _ _ ew (fun z => nw (sub _ z)), nw, hS.mono tA, kn3.keep k4 t4 ndo, fun z => hZ d z hd, hrf.keep kA tA sub⟩
end
end Slx

set_option Elab.async false
set_option linter.all false
set_option maxRecDepth 100000
set_option maxHeartbeats 4000000
/-! == of a dict of data and one that holds nothing. -/
namespace Sl
open PySem PySem.Spec PyProof.Rows L2
section
variable {prog : Program} {w : World} {K : Type} [DecidableEq K] {knd : HeapKind prog w K} {A : Around} {E : Value → Shared → Prop} {s : Shared}
theorem diff_heap {nm : String} {a b : Addr} {xs ys : List (K × Addr × Value)} {Q : Bool → Shared → Prop} (na : (a == sysModules) = false) (nb : (b == sysModules) = false) (da : s.heap.DictOfH knd a xs) (db : s.heap.DictOfH knd b ys) (hl : xs.length ≠ ys.length)
    (fin : Q false s) : wpAny (model prog w) A (Builtin.Dict.samePairs nm a b) Q E s := by
  obtain ⟨oa, es, ep, ga, _, ea, la, isa, _⟩ := da
  obtain ⟨ob, fs, ep', gb, _, eb, lb, isb, ndb⟩ := db
  have za : es.size = xs.length := size_of_entries la
  have zb : fs.size = ys.length := size_of_entries lb
  unfold Builtin.Dict.samePairs Builtin.Dict.showsAll
  rw [if_neg (show ¬ (a == sysModules) = true by rw [na]; exact Bool.false_ne_true), if_neg (show ¬ (b == sysModules) = true by rw [nb]; exact Bool.false_ne_true)]
  refine wpAny_bind (wpAny_pure (wpAny_bind (wpAny_pure (wpAny_bind (wpAny_dictEntries ga ea ?_)))))
  dsimp only
  refine wpAny_bind (wpAny_dictEntries gb eb ?_)
  have zz : es.size ≠ fs.size := by omega
  rw [if_pos (by simp [zz])]
  exact wpAny_bind (wpAny_rule (wpAny_pure fin))
theorem ne_heap {a b : Addr} {xs ys : List (K × Addr × Value)} {Q : Value → Shared → Prop} (na : (a == sysModules) = false) (nb : (b == sysModules) = false) (da : s.heap.DictOfH knd a xs) (db : s.heap.DictOfH knd b ys) (hl : xs.length ≠ ys.length) (hc : A.units < cLine)
    (fin : Q (.bool false) s) : wpAny (model prog w) A (compareOp .Eq (.ref a) (.ref b)) Q E s := by
  refine wpAny_richCompare_same_room (op := .Eq) da.typeIs db.typeIs PySem.F.slot_dict_eq (wpAny_call_entry PySem.F.slot_dict_eq da.typeIs PySem.F.entry_dict_eq ?_ (PySem.F.args_dict_eq_2 _ _)) hc
  show wpAny _ _ (Builtin.Dict.dictSlotArgs "__eq__" ⟨[.ref a, .ref b], []⟩ >>= _) _ _ s
  refine wpAny_bind ?_
  unfold Builtin.Dict.dictSlotArgs
  refine wpAny_bind (wpAny_notOrdered_dict da.typeIs (show wpAny _ _ (pure (Value.ref a, Value.ref b)) _ _ s from wpAny_pure (wpAny_bind (wpAny_isInstance (T := "dict") db.typeIs PySem.F.sub_dict_dict ?_))))
  simp only [Bool.not_true, Bool.false_eq_true, if_false]
  refine wpAny_bind (wpAny_pure (wpAny_bind (wpAny_pure (wpAny_bind (diff_heap na nb da db hl (wpAny_pure ⟨_, rfl, (fun x => nomatch x), ?_⟩))))))
  exact fin
end
/-- d == e, where e holds nothing -/
def rEqE (P : Program) (w : World) : R2 := fun x y H Q => ∃ a b ks, (x = .ref a ∧ y = .ref b) ∧ (DR P w H a ks ∧ DR P w H b []) ∧ Q (.bl ks.isEmpty) H
theorem op_eqE {X : Cx} {P : Program} {w : World} (hu : X.A.units + 9 < cLine) (hP : X.prog = P := by rfl) (hw : X.w = w := by rfl) : OpR X (compareOp .Eq) (rEqE P w) := fun pins s σ H _ _ v u Q J rx ry ⟨a, b, ks, ⟨e1, e2⟩, ⟨d1, d2⟩, q⟩ => by
  subst hP hw e1 e2
  cases rx
  cases ry
  obtain ⟨_, na, xs, r1, h1⟩ := d1.heap J
  obtain ⟨_, nb, ys, r2, h2⟩ := d2.heap J
  have l1 := Paired.length r1
  have l2 := Paired.length r2
  cases ks with
  | nil =>
    have l3 : xs.length = 0 := by simpa using l1.symm
    have l4 : ys.length = 0 := by simpa using l2.symm
    refine eq_heap na nb h1 h2 (by omega) (show X.A.in1.units + 8 < cLine by rw [Around.in1_units]; omega) (by omega) (fun x hx => ?_) ⟨.bl true, H, J, rfl, q⟩
    rw [List.eq_nil_of_length_eq_zero l3] at hx
    cases hx
  | cons k ks =>
    have l4 : ys.length = 0 := by simpa using l2.symm
    have l3 : xs.length = ks.length + 1 := by simpa using l1.symm
    exact ne_heap na nb h1 h2 (by omega) (by omega) ⟨.bl false, H, J, rfl, q⟩
end Sl

set_option Elab.async false
set_option linter.all false
set_option maxRecDepth 100000
set_option maxHeartbeats 4000000
/-! a tuple of a word and True or False, asked of a dict of data -/
namespace Sl
open PySem PySem.Spec PyProof.Rows L2
/-- the tuple at b is the key k; or it is a word with True or False -/
def KeyB (H : Hp) (b : Addr) (k : NestedKey) : Prop := KeyAt H b k ∨ ∃ (wd : Str) (c : Bool), k = .tup [.text wd, .num (if c = true then 1 else 0)] ∧ TupAt H b [.str wd, .bl c]
section
variable {X : Cx} {pins : List (Addr × Obj)} {σ : L2.St} {H : Hp} {s : Shared}
theorem KeyB.is {b : Addr} {k : NestedKey} (J : Inv X pins σ H s) (h : KeyB H b k) : (nestedKind X.prog X.w).is s.heap k b := by
  rcases h with h | ⟨wd, c, rfl, t⟩
  · exact h.is J
  obtain ⟨vals, rels, ⟨o, h1, h2, n, h3⟩, _⟩ := J.tuple (t.sq (K := X.K))
  refine ⟨.tup h1 h2 h3 ?_, by show NestedKey.depth _ ≤ 8; simp [NestedKey.depth, NestedKey.depthAll]⟩
  cases rels with
  | cons r1 r2 =>
    cases r2 with
    | cons r3 r4 =>
      cases r4
      obtain ⟨t1, e1⟩ := (show ∃ t, _ = Value.str wd t from r1)
      have e2 := (show _ = Value.bool c from r3)
      subst e1 e2
      exact .cons (.text _ _) (.cons (.bool rfl) .nil)
end
abbrev AskB (P : Program) (w : World) (H : Hp) (x y : V) (Q : List Ent → NestedKey → Prop) : Prop := ∃ a b ks k, (x = .ref a ∧ y = .ref b) ∧ (DR P w H a ks ∧ KeyB H b k) ∧ Q ks k
def tNInB (P : Program) (w : World) (ty td : TE) : TE := fun σ H Q => ty σ H fun y H1 => td σ H1 fun x H2 => AskB P w H2 x y fun ks k => Q (.bl (valN ks k).isSome) H2
section
variable {X : Cx} {o i value : Expr} {pos pos' : Pos} {td ty tv : TE} {P : Program} {w : World}
theorem pc_ninB (hu : X.A.units + 9 < cLine) (hi : PE X i ty) (ho : PE X o td) (hP : X.prog = P := by rfl) (hw : X.w = w := by rfl) : PC X .In i o (tNInB P w ty td) := ⟨fun pins s σ H Q I h => by
  subst hP hw
  refine thn (hi.run pins s σ H _ I h) fun iv s1 ⟨y, H1, I1, ry, q1⟩ => thn (ho.run pins s1 σ H1 _ I1 q1) fun u s2 ⟨x, H2, I2, rx, a, b, ks, k, ⟨ex, ey⟩, ⟨d, hk⟩, q2⟩ => ?_
  subst ex ey
  cases rx
  cases ry
  obtain ⟨_, hd, xs, rel, dd⟩ := d.heap I2
  have e := (rel.val k).isSome_eq
  rw [Option.isSome_map] at e
  refine wpAny_in_heap (room_n hu) (hk.is I2) hd dd ?_
  rw [← e]
  exact ⟨.bl _, H2, I2.tok _, rfl, q2⟩⟩
end
/-- a test, with what is true behind it -/
def tTCut (t : TT) : TT := fun σ H Q => ∃ R : Bool → Hp → Prop, t σ H R ∧ ∀ b G, R b G → Q b G
theorem pt_cut {X : Cx} {c : Expr} {t : TT} (h : PT X c t) : PT X c (tTCut t) := ⟨fun pins s σ H Q I ⟨R, h1, h2⟩ => thn (h.run pins s σ H R I h1) fun b s1 ⟨H1, I1, q⟩ => ⟨H1, I1, h2 _ _ q⟩⟩
end Sl

set_option Elab.async false
set_option linter.all false
set_option maxRecDepth 100000
set_option maxHeartbeats 4000000
namespace Slx
open PySem PySem.Spec PyProof.Rows L2 Sl
theorem pairs_len {ln : List Int} {wy : List Bool} {S : Stand} (ok : OkStand ln wy S) : (allPairs ln wy S).length ≤ 12 := by
  have h := behinds_len ln wy S
  have h2 : (behinds ln wy S).length = (allPairs ln wy S).length := by simp [behinds]
  have := ok.len
  have := ok.most
  omega
/-- a key that the dict of moves holds is a move -/
theorem key_move {H : Hp} {S : Stand} {es : List Ent} {L : List (Mv × Spot)} (p : Paired (Leads H S) es L) {wd : Str} {i : Int} (h : (valN es (.tup [.text wd, .num i])).isSome = true) : ∃ m : Mv, wd = dW m.1 ∧ i = (m.2 : Nat) ∧ ∃ sp, (m, sp) ∈ L := by
  have hm : NestedKey.tup [.text wd, .num i] ∈ es.map (·.1) := by
    rcases Classical.em (NestedKey.tup [.text wd, .num i] ∈ es.map (·.1)) with h1 | h1
    · exact h1
    · rw [val_none.mpr h1] at h; cases h
  rw [leads_keys p] at hm
  obtain ⟨m, h1, h2⟩ := List.mem_map.mp hm
  obtain ⟨c, h3, rfl⟩ := List.mem_map.mp h1
  have e := NestedKey.tup.inj h2
  simp only [List.cons.injEq, NestedKey.text.injEq, NestedKey.num.injEq] at e
  exact ⟨c.1, e.1.symm, e.2.1.symm, c.2, h3⟩
theorem val_led {H : Hp} {ln : List Int} {wy : List Bool} {S : Stand} {es : List Ent} (p : Paired (Leads H S) es (allPairs ln wy S)) {m : Mv} {sp : Spot} (h : (m, sp) ∈ allPairs ln wy S) : ∃ v sp', (m, sp') ∈ allPairs ln wy S ∧ valN es (kMv m) = some v ∧ Im H v (dSt (S.set m.2 sp')) := by
  have z := val_leads p m
  cases hf : (allPairs ln wy S).find? (fun c => decide (c.1 = m)) with
  | none =>
    have := List.find?_eq_none.mp hf (m, sp) h
    simp at this
  | some c =>
    rw [hf] at z
    obtain ⟨v, h1, h2⟩ := z
    have e : c.1 = m := by simpa using List.find?_some hf
    have hm := List.mem_of_find?_eq_some hf
    obtain ⟨c1, c2⟩ := c
    obtain rfl : c1 = m := e
    exact ⟨v, c2, hm, h1, h2⟩
theorem pair_choice {ln : List Int} {wy : List Bool} {S : Stand} {m : Mv} {sp : Spot} (h : (m, sp) ∈ allPairs ln wy S) : m.2 < S.length ∧ (m, sp) ∈ choices ln wy S m.2 := by
  obtain ⟨k, hk, hc⟩ := mem_pairs.mp h
  have e := (mem_choices hc).1
  rw [e]
  exact ⟨hk, hc⟩
theorem key_wd {H : Hp} {p : Addr} {wd : Str} {i : Int} (t : TupAt H p [.str wd, .int i]) : KeyAt H p (.tup [.text wd, .num i]) :=
  ⟨.tup t (.cons (.str _) (.cons (.int _) .nil)), by show NestedKey.depth _ ≤ 8; simp [NestedKey.depth, NestedKey.depthAll]⟩
theorem alike_moves (L : List Mv) : PySem.W.AllAlike (L.map dM) := fun d hd e he => by
  obtain ⟨S, _, rfl⟩ := List.mem_map.mp hd
  obtain ⟨T, _, rfl⟩ := List.mem_map.mp he
  rfl
theorem sort_moves {bs : List VD} {L : List Mv} (h : bs.map (·.2) = L.map dM) (z : bs.length ≤ sizeLine) : SortOk bs where
  alike := by
    rw [h]
    exact alike_moves L
  tup := .inl fun d hd => by
    rw [h] at hd
    obtain ⟨m, hm, rfl⟩ := List.mem_map.mp hd
    exact ⟨_, _, rfl⟩
  deep := fun b hb => by
    have hm : b.2 ∈ bs.map (·.2) := List.mem_map_of_mem hb
    rw [h] at hm
    obtain ⟨m, _, e⟩ := List.mem_map.mp hm
    rw [← e]
    obtain ⟨w, k⟩ := m
    simp [dM, PyData.depth, PyData.depthAll]
  size := z
/-- an odd thing that is no move that is allowed -/
inductive Odd (Z : List Addr) (H : Hp) (ln : List Int) (wy : List Bool) (S : Stand) : V → Prop
  | mv {p : Addr} {wd : Str} {k : Nat} : TupAt H p [.str wd, .int (k : Nat)] → k < S.length → SeqAt.shaped (.tuple [.str wd, .int (k : Nat)]) = true → (∀ w, (w, k) ∈ allowed ln wy S → dW w ≠ wd) → Odd Z H ln wy S (.ref p)
  | far {p : Addr} {n : Int} : TupAt H p [.str "go", .int n] → (S.length : Int) ≤ n → Odd Z H ln wy S (.ref p)
  | bl {p : Addr} : TupAt H p [.str "go", .bl true] → Odd Z H ln wy S (.ref p)
  | non : Odd Z H ln wy S .non
  | lst {l : Addr} {xs : List V} : H l = some (.lst xs) → l ∉ Z → Odd Z H ln wy S (.ref l)
  | inner {p l : Addr} {xs : List V} : TupAt H p [.str "go", .ref l] → H l = some (.lst xs) → l ∉ Z → Odd Z H ln wy S (.ref p)
theorem Odd.keep {M Z : List Addr} {H H' : Hp} {ln : List Int} {wy : List Bool} {S : Stand} {v : V} (k : Keep Z H H') (t : Ti H H') (z : ∀ a ∈ Z, a ∈ M) (h : Odd M H ln wy S v) : Odd M H' ln wy S v := by
  cases h with
  | mv e a b c => exact .mv (t _ _ e) a b c
  | far e a => exact .far (t _ _ e) a
  | bl e => exact .bl (t _ _ e)
  | non => exact .non
  | lst e n => exact .lst (k.1 _ _ e fun m => n (z _ m)) n
  | inner e e2 n => exact .inner (t _ _ e) (k.1 _ _ e2 fun m => n (z _ m)) n
theorem Odd.ref {M : List Addr} {H : Hp} {ln : List Int} {wy : List Bool} {S : Stand} {v : V} (h : Odd M H ln wy S v) : RefOk M H v := by
  cases h with
  | mv e => exact .int e
  | far e => exact .int e
  | bl e => exact .bl e
  | non => exact .non
  | lst e n => exact .lst e n
  | inner e e2 n => exact .inner e e2 n
theorem Odd.no {K : PySem.W.Frag} {M : List Addr} {H : Hp} {ln : List Int} {wy : List Bool} {S : Stand} {v : V} (h : Odd M H ln wy S v) : NoMv K H ln wy S v := by
  cases h with
  | mv e a b c => exact .none e a b c
  | far e a => exact .train e (.int _) (by simp [isNum]; omega)
  | bl e => exact .train e (.bl _) rfl
  | non => exact .other .non (by decide)
  | lst e n => exact .other (.lst (.inl (.inl e))) (by decide)
  | inner e e2 n => exact .train e (.lst (.inl (.inl e2))) rfl
end Slx

set_option Elab.async false
set_option linter.all false
set_option maxRecDepth 100000
set_option maxHeartbeats 4000000
namespace Slx
open PySem PySem.Spec PyProof.Rows L2 Sl
section
variable {P : Program} {w : World} {K : PySem.W.Frag} {mg : Str → Option Value} {base : Heap}
/-- what may be written of a side -/
structure Apart (Z : List Addr) (H : Hp) (p l1 o lo : Addr) : Prop where
  all : ∀ a ∈ Z, H a ≠ none
  hp : p ∈ Z
  hl1 : l1 ∈ Z
  ho : o ∈ Z
  hlo : lo ∈ Z
  ll : l1 ≠ lo
def spLong (P : Program) (w : World) (CY : Addr) : Sp := fun vs H Q _ => ∃ (Z : List Addr) (p l1 o lo : Addr) (ln : List Int) (wy : List Bool) (S : Stand) (ce : Int),
  vs = [.ref p, .ref o, .int ce] ∧ SideAt P w CY Z H p l1 o lo ln wy S ∧ Apart Z H p l1 o lo ∧
  ∀ H' ln', Keep [p, l1, o, lo] H H' → Ti H H' → ln'.length = ln.length → SideAt P w CY Z H' p l1 o lo ln' wy S → Q (.bl true) H'
def dPV (x : Str) : PyData := .list [.str x, .str "value"]
theorem eq_pv {G : Hp} {l m : Addr} {Q : VK} (e : G l = some (.lst [.str "place", .str "value"])) (e2 : G m = some (.lst [.str "place", .str "value"])) (q : Q (.bl true) G) : rEqD K (.ref l) (.ref m) G Q := by
  refine ⟨dPV "place", dPV "place", .lst (.inl (.inl e)) (.cons (.str _) (.cons (.str _) .nil)), .lst (.inl (.inl e2)) (.cons (.str _) (.cons (.str _) .nil)), by decide +kernel, by decide +kernel, ?_⟩
  rw [show PyData.eqv (dPV "place") (dPV "place") = true by decide +kernel]
  exact q
theorem ok_lLonger (T : Txt K mg) {CY : Addr} (Y : Yrd K mg CY) : DefOk P w K mg base 8 "_law_longer" ["_law_yard", "_law_own_here", "_law_cell"] (spLong P w CY) := by
  have D_lTried : DefOk P w K mg base 7 "_law_tried" ["_law_yard", "_law_word", "_law_thing"] (spTried K CY) := ok_lTried T Y
  have D_lRenewed : DefOk P w K mg base 4 "_law_renewed" ["_law_own_here", "_law_gained"] (spRenewed P w) := ok_lRenewed T
  refine T.f_lLonger.ok sc_lLonger (fun vs H Q E h => by obtain ⟨Z, p, l1, o, lo, ln, wy, S, ce, rfl, _⟩ := h; rfl) (fun f cdv A outer s H vs Q E hr h => ?_)
  obtain ⟨Z, p, l1, o, lo, ln, wy, S, ce, rfl, hs, ap, k⟩ := h
  obtain ⟨⟨sh, g, rf, wo, so, kd, ks, L, hy, ho, oks, hg⟩, ok, few⟩ := id hs
  have n1 := ok.lane.one
  have n8 := ok.lane.most
  refine ⟨_, (pss_cons (ps_set (i := 3) sc_lLonger.nd rfl (.inl rfl) (pe_op op_add (pe_callB call_len_seq (by rfl) T.b_len (by decide +kernel) (pa_cons (pe_dget (hu_of hr) (pv 1) pe_str (fun _ _ => rfl)) pa_nil)) (pe_op op_mod (pe_op op_fdiv (pv 2) pe_int) (pe_op op_pow pe_int pe_int))))
      (pss_cons (ps_set (i := 4) sc_lLonger.nd rfl (.inl rfl) (pe_op op_mod (pe_op op_fdiv (pv 2) pe_int) (pe_callB call_len_seq (by rfl) T.b_len (by decide +kernel) (pa_cons (pe_dget (hu_of hr) (pv 1) pe_str (fun _ _ => rfl)) pa_nil))))
      (pss_cons (ps_if (pt_cmpR op_eq (pe_op op_mod (pv 2) pe_int) pe_int (nomark _)) (pss_cons (ps_set (i := 5) sc_lLonger.nd rfl (.inl rfl) (pe_ix (r := rIxL K) ix_list (pe_lst (pa_cons (pe_un un_neg pe_int) (pa_cons (pe_callB call_len_seq (by rfl) T.b_len (by decide +kernel) (pa_cons (pe_dget (hu_of hr) (pv 1) pe_str (fun _ _ => rfl)) pa_nil)) (pa_cons pe_bl (pa_cons pe_non (pa_cons pe_str (pa_cons (pv 3) (pa_cons (pe_lst (pa_cons pe_int pa_nil)) (pa_cons (pe_op op_sub (pe_un un_neg pe_int) (pv 3)) (pa_cons pe_bl pa_nil)))))))))) (pe_op op_mod (pe_op op_fdiv (pv 2) pe_int) pe_int) (fun _ _ => rfl)))
      (pss_one (ps_ret (pe_cmpR (r := rEqD K) (op_eqD (hu64 hr)) (pe_def D_lTried (hr.mono (by omega)) (pa_cons (pv 0) (pa_cons pe_str (pa_cons (pv 5) pa_nil)))) (pe_lst (pa_cons pe_str (pa_cons pe_str pa_nil))) (nomark _))))) pss_nil)
      (pss_cons (ps_if (pt_cmpR op_eq (pe_ix (r := rIxL K) ix_list (pe_dget (hu_of hr) (pv 1) pe_str (fun _ _ => rfl)) (pv 4) (fun _ _ => rfl)) pe_int (nomark _)) (pss_one (ps_ret (pe_cmpR (r := rEqD K) (op_eqD (hu64 hr)) (pe_def D_lTried (hr.mono (by omega)) (pa_cons (pv 0) (pa_cons pe_str (pa_cons (pv 4) pa_nil)))) (pe_lst (pa_cons pe_str (pa_cons pe_str pa_nil))) (nomark _)))) pss_nil)
      (pss_cons (ps_if (pt_cmpR (r := rNeD K) (op_neD (hu64 hr)) (pe_def D_lTried (hr.mono (by omega)) (pa_cons (pv 0) (pa_cons pe_str (pa_cons (pv 4) pa_nil)))) (pe_lst (pa_cons pe_non pa_nil)) (nomark _)) (pss_one (ps_ret pe_bl)) pss_nil)
      (pss_cons (ps_asg (pe_op op_add (pe_ix (r := rIxL K) ix_list (pe_dget (hu_of hr) (pv 1) pe_str (fun _ _ => rfl)) (pv 4) (fun _ _ => rfl)) pe_int) (pg_sub (pe_dget (hu_of hr) (pv 1) pe_str (fun _ _ => rfl)) (pv 4) set_list))
      (pss_cons (ps_expr (pe_def D_lRenewed (hr.mono (by omega)) (pa_cons (pv 1) (pa_cons pe_int pa_nil))))
      (pss_one (ps_ret pe_bl))))))))), ?_⟩
  have len : (ln.map V.int).length = ln.length := by rw [List.length_map]
  obtain ⟨far, hfar, efar⟩ : ∃ far : Int, (ln.length : Int) ≤ far ∧ (((ln.map V.int).length : Nat) : Int) + ce / 60 % (10 ^ (20 : Int).toNat) = far := ⟨_, by have := Int.emod_nonneg (ce / 60) (show ((10 : Int) ^ (20 : Int).toNat) ≠ 0 by decide); rw [len]; omega, rfl⟩
  refine ⟨.ref o, rfl, o, .ref lo, rfl, dgV ho.at_ rfl, lo, _, rfl, .inl (.inl (.inl ho.hL)), .int ce, rfl, _, _, rfl, rfl, (by decide : (0 : Int) < 60 ∧ _), _, _, rfl, rfl, ⟨by decide, by decide, by decide⟩, _, _, rfl, rfl, (by show (0 : Int) < 10 ^ (20 : Int).toNat; decide), _, _, rfl, rfl, ?_⟩
  rw [show (fun i j : Int => V.int (i + j)) (((ln.map V.int).length : Nat) : Int) (ce / 60 % (10 ^ (20 : Int).toNat)) = V.int far from congrArg V.int efar]
  have kN : ce / 4 % (ln.length : Int) = ((ce / 4 % (ln.length : Int)).toNat : Nat) ∧ (ce / 4 % (ln.length : Int)).toNat < ln.length := by
    have a := Int.emod_nonneg (ce / 4) (show (ln.length : Int) ≠ 0 by omega)
    have b := Int.emod_lt_of_pos (ce / 4) (show (0 : Int) < (ln.length : Int) by omega)
    omega
  obtain ⟨kk, ek, hk⟩ : ∃ kk : Nat, ce / 4 % (((ln.map V.int).length : Nat) : Int) = kk ∧ kk < ln.length := ⟨_, by rw [len]; exact kN.1, kN.2⟩
  refine ⟨.int ce, rfl, _, _, rfl, rfl, (by decide : (0 : Int) < 4 ∧ _), .ref o, rfl, o, .ref lo, rfl, dgV ho.at_ rfl, lo, _, rfl, .inl (.inl (.inl ho.hL)), _, _, rfl, rfl, (by show (0 : Int) < _; rw [len]; omega), ?_⟩
  rw [show (fun i j : Int => V.int (i % j)) (ce / 4) (((ln.map V.int).length : Nat) : Int) = V.int (kk : Nat) from congrArg V.int ek]
  have done : ∀ H', Same H H' → Q (.bl true) H' := fun H' s' => k H' ln (Keep.of s') (Ti.of s') rfl (hs.keep (Keep.of (Z := []) s') (Ti.of s') (fun _ h => nomatch h) ⟨(fun h => nomatch h), (fun h => nomatch h), (fun h => nomatch h), (fun h => nomatch h)⟩)
  refine ⟨.int ce, rfl, _, _, rfl, rfl, (by decide : (0 : Int) < 4), rfl, _, rfl, ?_⟩
  by_cases c4 : ce % 4 = 0
  · refine iteT' (decide_eq_true (congrArg V.int c4)) ?_
    refine ⟨1, rfl, .ref o, rfl, o, .ref lo, rfl, dgV ho.at_ rfl, lo, _, rfl, .inl (.inl (.inl ho.hL)), .int far, rfl, ?_⟩
    refine ⟨one_size, fun b hb => ?_⟩
    have s1 := same_new (o := .lst [.int 0]) hb
    have eb : (upd H b (.lst [.int 0])) b = some (.lst [.int 0]) := upd_same
    generalize upd H b (.lst [.int 0]) = H1 at s1 eb
    refine ⟨1, rfl, .int far, rfl, _, _, rfl, rfl, szK (by simp), fun l hl => ?_⟩
    dsimp only
    have s2 := same_new (o := .lst [.int (-1), .int (((ln.map V.int).length : Nat) : Int), .bl true, .non, .str "0", .int far, .ref b, .int (-1 - far), .bl false]) hl
    have el : (upd H1 l (.lst [.int (-1), .int (((ln.map V.int).length : Nat) : Int), .bl true, .non, .str "0", .int far, .ref b, .int (-1 - far), .bl false])) l = some (.lst [.int (-1), .int (((ln.map V.int).length : Nat) : Int), .bl true, .non, .str "0", .int far, .ref b, .int (-1 - far), .bl false]) := upd_same
    generalize upd H1 l (.lst [.int (-1), .int (((ln.map V.int).length : Nat) : Int), .bl true, .non, .str "0", .int far, .ref b, .int (-1 - far), .bl false]) = H2 at s2 el
    have s12 := s1.trans s2
    obtain ⟨x, Tn, ex, ty, nx⟩ : ∃ x Tn, atI [V.int (-1), .int (((ln.map V.int).length : Nat) : Int), .bl true, .non, .str "0", .int far, .ref b, .int (-1 - far), .bl false] (ce / 4 % 9) = some x ∧ TyB K H2 x Tn ∧ isNum x 0 ((ln.length : Int) - 1) = false := by
      have i0 := Int.emod_nonneg (ce / 4) (show (9 : Int) ≠ 0 by decide)
      have i9 := Int.emod_lt_of_pos (ce / 4) (show (0 : Int) < 9 by decide)
      have e9 : ce / 4 % 9 = 0 ∨ ce / 4 % 9 = 1 ∨ ce / 4 % 9 = 2 ∨ ce / 4 % 9 = 3 ∨ ce / 4 % 9 = 4 ∨ ce / 4 % 9 = 5 ∨ ce / 4 % 9 = 6 ∨ ce / 4 % 9 = 7 ∨ ce / 4 % 9 = 8 := by omega
      rcases e9 with e | e | e | e | e | e | e | e | e <;> rw [e]
      · exact ⟨_, _, atI_nat (j := 0) rfl, .int _, by simp [isNum]⟩
      · exact ⟨_, _, atI_nat (j := 1) rfl, .int _, by simp [isNum]; omega⟩
      · exact ⟨_, _, atI_nat (j := 2) rfl, .bl _, rfl⟩
      · exact ⟨_, _, atI_nat (j := 3) rfl, .non, rfl⟩
      · exact ⟨_, _, atI_nat (j := 4) rfl, .str _, rfl⟩
      · exact ⟨_, _, atI_nat (j := 5) rfl, .int _, by simp [isNum]; omega⟩
      · exact ⟨_, _, atI_nat (j := 6) rfl, .lst (.inl (.inl (s2 _ _ eb))), rfl⟩
      · exact ⟨_, _, atI_nat (j := 7) rfl, .int _, by simp [isNum]; omega⟩
      · exact ⟨_, _, atI_nat (j := 8) rfl, .bl _, rfl⟩
    refine ⟨.int ce, rfl, _, _, rfl, rfl, (by decide : (0 : Int) < 4 ∧ _), _, _, rfl, rfl, (by decide : (0 : Int) < 9), l, _, _, x, rfl, rfl, .inl (.inl el), ex, ?_⟩
    refine ⟨.ref p, rfl, x, rfl, Z, p, l1, ln, wy, S, sh, "longer", x, rfl, hy.same s12, ok, ⟨ap.hl1, fun a ha => (Keep.of (Z := []) s12).2 a (ap.all a ha)⟩, .inr ⟨rfl, .inr ⟨.inr ⟨Tn, ty, nx⟩, fun H3 r s3 hr' er => ?_⟩⟩⟩
    refine ⟨two_size, fun m hm => eq_pv (same_new hm _ _ er) upd_same ?_⟩
    exact done _ ((s12.trans s3).trans (same_new hm))
  refine iteF' (decide_eq_false (fun z => c4 (V.int.inj z))) ?_
  refine ⟨.ref o, rfl, o, .ref lo, rfl, dgV ho.at_ rfl, .int kk, rfl, lo, _, kk, _, rfl, rfl, .inl (.inl ho.hL), atI_nat (by rw [List.getElem?_map, List.getElem?_eq_getElem hk]; rfl), rfl, _, rfl, ?_⟩
  have hgd : ln.getD kk 0 = ln[kk] := by rw [List.getD_eq_getElem?_getD, List.getElem?_eq_getElem hk]; rfl
  rw [← hgd]
  by_cases c44 : ln.getD kk 0 = 4
  · refine iteT' (decide_eq_true (congrArg V.int c44)) ?_
    refine ⟨.ref p, rfl, .int kk, rfl, Z, p, l1, ln, wy, S, sh, "longer", .int kk, rfl, hy, ok, ⟨ap.hl1, ap.all⟩, .inr ⟨rfl, .inr ⟨.inl ⟨kk, rfl, hk, c44⟩, fun H3 r s3 hr' er => ?_⟩⟩⟩
    refine ⟨two_size, fun m hm => eq_pv (same_new hm _ _ er) upd_same ?_⟩
    exact done _ (s3.trans (same_new hm))
  refine iteF' (decide_eq_false (fun z => c44 (V.int.inj z))) ?_
  refine ⟨.ref p, rfl, .int kk, rfl, Z, p, l1, ln, wy, S, sh, "longer", .int kk, rfl, hy, ok, ⟨ap.hl1, ap.all⟩, .inr ⟨rfl, .inl ⟨kk, rfl, hk, c44, fun H3 r k3 t3 hr' hy3 er => ?_⟩⟩⟩
  refine ⟨one_size, fun m hm => ?_⟩
  have s4 := same_new (o := .lst [.non]) hm
  have em : (upd H3 m (.lst [.non])) m = some (.lst [.non]) := upd_same
  generalize upd H3 m (.lst [.non]) = H4 at s4 em
  have s34 := s4
  refine ⟨.list [.none], .list [.none], .lst (.inl (.inl (s4 _ _ er))) (.cons .non .nil), .lst (.inl (.inl em)) (.cons .non .nil), by decide +kernel, by decide +kernel, _, rfl, iteF' rfl ?_⟩
  obtain ⟨dx, l2, c, shv, hp, h1, ⟨h2, n2⟩, hS, hsh⟩ := id hy
  have po : p ≠ o := fun z => by have := ho.at_; rw [← z, hp] at this; cases this
  have plo : p ≠ lo := fun z => by have := ho.hL; rw [← z, hp] at this; cases this
  have l1o : l1 ≠ o := fun z => by have := ho.at_; rw [← z, h1] at this; cases this
  have loo : lo ≠ o := fun z => by have := ho.at_; rw [← z, ho.hL] at this; cases this
  have sub : ∀ a ∈ [p, l1], a ∈ Z := fun a ha => by
    rcases List.mem_cons.mp ha with e | e
    · rw [e]; exact ap.hp
    · rw [List.mem_singleton.mp e]; exact ap.hl1
  have k4 : Keep [p, l1] H H4 := k3.trans (Keep.of s4)
  have t4 := t3.trans (Ti.of s4)
  have ho4 := ho.keep k4 t4 sub (by simp [po.symm, l1o.symm]) (by simp [plo.symm, ap.ll.symm])
  have hL4 := ho4.hL
  refine ⟨.ref o, rfl, o, .ref lo, rfl, dgV ho4.at_ rfl, .int kk, rfl, lo, _, kk, _, rfl, rfl, .inl (.inl hL4), atI_nat (by rw [List.getElem?_map, List.getElem?_eq_getElem hk]; rfl), _, _, rfl, rfl, ?_⟩
  rw [← hgd]
  refine ⟨.ref o, rfl, o, .ref lo, rfl, dgV ho4.at_ rfl, .int kk, rfl, lo, _, kk, kk, rfl, rfl, hL4, ?_, ?_⟩
  · unfold ixN
    rw [if_pos (by omega), if_pos (by rw [List.length_map]; omega)]
    rfl
  rw [show (ln.map V.int).set kk (.int (ln.getD kk 0 + 1)) = (ln.set kk (ln.getD kk 0 + 1)).map V.int by rw [List.map_set]]
  have lng : Longer ln (ln.set kk (ln.getD kk 0 + 1)) := ⟨List.length_set .., fun i => by
    rw [List.getD_eq_getElem?_getD (l := ln.set kk _), List.getElem?_set]
    by_cases e : kk = i
    · subst e
      rw [if_pos rfl, if_pos hk]
      show _ ≤ ln.getD kk 0 + 1
      omega
    · rw [if_neg e, ← List.getD_eq_getElem?_getD]
      exact Int.le_refl _⟩
  have held := ok.lane.held (ln.getD kk 0) (by rw [hgd]; exact List.getElem_mem _)
  have okl : OkLane (ln.set kk (ln.getD kk 0 + 1)) := ⟨by rw [List.length_set]; exact n1, by rw [List.length_set]; exact n8, fun x hx => by
    rcases List.mem_or_eq_of_mem_set hx with h | h
    · exact ok.lane.held x h
    · rw [h]; omega⟩
  have zl : (ln.set kk (ln.getD kk 0 + 1)).length = ln.length := List.length_set ..
  generalize ln.set kk (ln.getD kk 0 + 1) = lz at lng okl hy3 zl
  have ok2 := lng.ok okl ok
  have few2 : Few lz S := by
    unfold Few Sl.room
    rw [lng.len]
    exact few
  have k5 : Keep [lo] H4 (upd H4 lo (.lst (lz.map V.int))) := Keep.refl.upd (List.mem_singleton.mpr rfl)
  have t5 : Ti H4 (upd H4 lo (.lst (lz.map V.int))) := Ti.lst hL4
  have e5 : (upd H4 lo (.lst (lz.map V.int))) lo = some (.lst (lz.map V.int)) := upd_same
  generalize upd H4 lo (.lst (lz.map V.int)) = H5 at k5 t5 e5
  have subo : ∀ a ∈ [lo], a ∈ Z := fun a ha => by rw [List.mem_singleton.mp ha]; exact ap.hlo
  have nwo : wo ∉ [lo] := fun z => ho.nW (subo _ z)
  refine ⟨.ref o, rfl, Z, o, lo, wo, so, lz, wy, S, 1, (L.length : Nat), .int g, .ref kd, rf, rfl, k5.1 _ _ ho4.at_ (fun z => loo (List.mem_singleton.mp z).symm), e5, ⟨k5.1 _ _ ho4.hW nwo, ho.nW⟩, ho4.hS.mono t5, ok2, few2, ho4.ref.keep k5 t5 subo, ⟨ap.ho, fun a ha => k5.2 a (k4.2 a (ap.all a ha))⟩, ⟨by decide, by decide⟩, fun H6 kd' ks' L' k6 t6 ho6 => ?_⟩
  have subA : ∀ a ∈ [o, lo], a ∈ Z := fun a ha => by
    rcases List.mem_cons.mp ha with e | e
    · rw [e]; exact ap.ho
    · rw [List.mem_singleton.mp e]; exact ap.hlo
  have kA : Keep [o, lo] H3 H6 := (Keep.of s4).trans ((k5.sub (by simp)).trans (k6.sub (by simp)))
  have tA : Ti H3 H6 := (Ti.of s4).trans (t5.trans t6)
  have hy6 := hy3.keep kA tA subA (by simp [po, plo]) (by simp [l1o, ap.ll])
  refine k H6 lz ((k3.sub (by simp)).trans (kA.sub (by simp))) (t3.trans tA) zl ⟨⟨some ln, _, rf, wo, so, kd', ks', L', hy6, ho6, ⟨ok, few⟩, L'.length, L.length, ⟨L', ho6.hK.nodup, ho6.hK.mem, rfl⟩, ⟨L, ho.hK.nodup, ho.hK.mem, rfl⟩, by omega⟩, ok2, few2⟩
end
end Slx

set_option Elab.async false
set_option linter.all false
set_option maxRecDepth 100000
set_option maxHeartbeats 4000000
namespace Slx
open PySem PySem.Spec PyProof.Rows L2 Sl
theorem dMV_eq {K : PySem.W.Frag} {G : Hp} {l m : Addr} {Q : VK} (e : G l = some (.lst [.str "move", .str "value"])) (e2 : G m = some (.lst [.str "move", .str "value"])) (q : Q (.bl true) G) : rEqD K (.ref l) (.ref m) G Q := by
  refine ⟨dPV "move", dPV "move", .lst (.inl (.inl e)) (.cons (.str _) (.cons (.str _) .nil)), .lst (.inl (.inl e2)) (.cons (.str _) (.cons (.str _) .nil)), by decide +kernel, by decide +kernel, ?_⟩
  rw [show PyData.eqv (dPV "move") (dPV "move") = true by decide +kernel]
  exact q
section
variable {P : Program} {w : World} {K : PySem.W.Frag} {mg : Str → Option Value} {base : Heap}
def spWholeT : Sp := fun vs H Q _ => ∃ x, vs = [x] ∧ ((∃ i, x = .int i ∧ Q (.bl true) H) ∨ ((x = .bl true ∨ ∃ l xs, x = .ref l ∧ H l = some (.lst xs)) ∧ Q (.bl false) H))
theorem ok_wholeT (T : Txt K mg) : DefOk P w K mg base 1 "_law_whole" ["_law_found"] spWholeT := by
  refine T.f_lWhole.ok sc_lWhole (fun vs H Q E h => by obtain ⟨i, rfl, _⟩ := h; rfl) (fun f cdv A outer s H vs Q E hr h => ?_)
  obtain ⟨x, rfl, h⟩ := h
  refine ⟨_, (pss_one (ps_ret (pe_and (pe_callB (r := rIsi K) (id := "isinstance") call_isi (by rfl) T.b_isinstance (by decide +kernel) (pa_cons (pv 0) (pa_cons (pe_ty (T := "int") T.b_int (by decide +kernel)) pa_nil))) (pe_one (pe_not (pe_callB (r := rIsi K) (id := "isinstance") call_isi (by rfl) T.b_isinstance (by decide +kernel) (pa_cons (pv 0) (pa_cons (pe_ty (T := "bool") T.b_bool (by decide +kernel)) pa_nil)))))))), ?_⟩
  rcases h with ⟨i, rfl, q⟩ | ⟨rfl | ⟨l, xs, rfl, e⟩, q⟩
  · refine ⟨.int i, rfl, .int i, .ty "int", .type "int", .type "int", true, rfl, .ty _, .base (.int i), by rfl, _, rfl, iteT ?_⟩
    exact ⟨.int i, rfl, .int i, .ty "bool", .type "int", .type "bool", false, rfl, .ty _, .base (.int i), kit_ty (by decide +kernel), _, rfl, q⟩
  · refine ⟨.bl true, rfl, .bl true, .ty "int", .type "bool", .type "int", true, rfl, .ty _, .base (.bl true), kit_ty (by decide +kernel), _, rfl, iteT ?_⟩
    exact ⟨.bl true, rfl, .bl true, .ty "bool", .type "bool", .type "bool", true, rfl, .ty _, .base (.bl true), by rfl, _, rfl, q⟩
  · exact ⟨.ref l, rfl, .ref l, .ty "int", .type "list", .type "int", false, rfl, .ty _, .base (.lst e), kit_ty (by decide +kernel), _, rfl, iteF q⟩
def spMoved (P : Program) (w : World) (CY : Addr) : Sp := fun vs H Q _ => ∃ (Z : List Addr) (p l1 o lo : Addr) (ln : List Int) (wy : List Bool) (S : Stand) (ce : Int),
  vs = [.ref p, .ref o, .int ce] ∧ SideAt P w CY Z H p l1 o lo ln wy S ∧ Apart Z H p l1 o lo ∧
  ∀ H' S', Keep [p, l1, o, lo] H H' → Ti H H' → S'.length = S.length → SideAt P w CY Z H' p l1 o lo ln wy S' → Q (.bl true) H'
theorem ok_lMoved (T : Txt K mg) {CY : Addr} (Y : Yrd K mg CY) : DefOk P w K mg base 8 "_law_moved" ["_law_yard", "_law_own_here", "_law_cell"] (spMoved P w CY) := by
  have D_lTried : DefOk P w K mg base 7 "_law_tried" ["_law_yard", "_law_word", "_law_thing"] (spTried K CY) := ok_lTried T Y
  have D_lRenewed : DefOk P w K mg base 4 "_law_renewed" ["_law_own_here", "_law_gained"] (spRenewed P w) := ok_lRenewed T
  have D_lMoves : DefOk P w K mg base 2 "_law_moves" ["_law_lane", "_law_ways", "_law_stand"] (spLMoves K) := ok_lMoves T
  have D_lWhole : DefOk P w K mg base 1 "_law_whole" ["_law_found"] spWholeT := ok_wholeT T
  refine T.f_lMoved.ok sc_lMoved (fun vs H Q E h => by obtain ⟨Z, p, l1, o, lo, ln, wy, S, ce, rfl, _⟩ := h; rfl) (fun f cdv A outer s H vs Q E hr h => ?_)
  obtain ⟨Z, p, l1, o, lo, ln, wy, S, ce, rfl, hs, ap, k⟩ := h
  obtain ⟨⟨sh, g, rf, wo, so, kd, ks, L, hy, ho, oks, hg⟩, ok, few⟩ := id hs
  refine ⟨_, (pss_cons (ps_set (i := 3) sc_lMoved.nd rfl (.inl rfl) (pe_callTy (call_dictL (P := P) (w := w) (K := K) rfl (hu10 hr)) (by rfl) T.b_dict (by decide +kernel) (pa_cons (pe_def D_lMoves (hr.mono (by omega)) (pa_cons (pe_dget (hu_of hr) (pv 1) pe_str (fun _ _ => rfl)) (pa_cons (pe_dget (hu_of hr) (pv 1) pe_str (fun _ _ => rfl)) (pa_cons (pe_dget (hu_of hr) (pv 1) pe_str (fun _ _ => rfl)) pa_nil)))) pa_nil)))
      (pss_cons (ps_if (pt_cut (PW.pt (pw_or (pt_cmpR op_eq (pe_op op_mod (pv 2) pe_int) pe_int (nomark _)) (pw_or1 (pt_cmpR (r := rEqE P w) (op_eqE (P := P) (w := w) (hu9 hr)) (pv 3) (pe_nnew (P := P) (w := w)) (nomark _)))))) (pss_cons (ps_set (i := 4) sc_lMoved.nd rfl (.inl rfl) (pe_ix (r := rIxL K) ix_list (pe_lst (pa_cons pe_str (pa_cons pe_str (pa_cons pe_str (pa_cons pe_str pa_nil))))) (pe_op op_mod (pe_op op_fdiv (pv 2) pe_int) pe_int) (fun _ _ => rfl)))
      (pss_cons (ps_set (i := 5) sc_lMoved.nd rfl (.inl rfl) (pe_lst (pa_cons (pe_tupF (pa_cons (pv 4) (pa_cons (pe_op op_mod (pe_op op_fdiv (pv 2) pe_int) (pe_callB call_len_seq (by rfl) T.b_len (by decide +kernel) (pa_cons (pe_dget (hu_of hr) (pv 1) pe_str (fun _ _ => rfl)) pa_nil))) pa_nil))) (pa_cons (pe_tupF (pa_cons pe_str (pa_cons (pe_callB call_len_seq (by rfl) T.b_len (by decide +kernel) (pa_cons (pe_dget (hu_of hr) (pv 1) pe_str (fun _ _ => rfl)) pa_nil)) pa_nil))) (pa_cons (pe_tupF (pa_cons pe_str (pa_cons pe_bl pa_nil))) (pa_cons pe_non (pa_cons (pe_lst (pa_cons pe_str (pa_cons pe_int pa_nil))) pa_nil)))))))
      (pss_cons (ps_expr (pe_bm PySem.F.plainAttrs_list PySem.F.slot_list_append PySem.F.type_list_append mt_append (pv 5) (pa_cons (pe_tupF (pa_cons pe_str (pa_cons (pe_lst (pa_cons pe_int pa_nil)) pa_nil))) pa_nil)))
      (pss_cons (ps_set (i := 6) sc_lMoved.nd rfl (.inl rfl) (pe_ix (r := rIxL K) ix_list (pv 5) (pe_ix (r := rIxL K) ix_list (pe_lst (pa_cons pe_int (pa_cons pe_int (pa_cons pe_int (pa_cons pe_int (pa_cons pe_int (pa_cons pe_int (pa_cons pe_int (pa_cons pe_int (pa_cons pe_int pa_nil)))))))))) (pe_op op_mod (pe_op op_fdiv (pv 2) pe_int) pe_int) (fun _ _ => rfl)) (fun _ _ => rfl)))
      (pss_cons (ps_if (pt_cut (PW.pt (pw_and (pt_val (pe_callB (r := rIsi K) (id := "isinstance") call_isi (by rfl) T.b_isinstance (by decide +kernel) (pa_cons (pv 6) (pa_cons (pe_ty (T := "tuple") T.b_tuple (by decide +kernel)) pa_nil)))) (pw_and (pt_val (pe_def D_lWhole (hr.mono (by omega)) (pa_cons (pe_ix (r := rIxT K) ix_tup (pv 6) pe_int (fun _ _ => rfl)) pa_nil))) (pw_and1 (pt_cmp (pc_nin (P := P) (w := w) (hu9 hr) (pv 6) (pv 3)))))))) (pss_one (ps_ret pe_bl)) pss_nil)
      (pss_cons (ps_dput (hu_of hr) (pv 1) pe_str (pv 6) (by rfl))
      (pss_one (ps_ret (pe_cmpR (r := rEqD K) (op_eqD (hu64 hr)) (pe_def D_lTried (hr.mono (by omega)) (pa_cons (pv 0) (pa_cons pe_str (pa_cons (pv 6) pa_nil)))) (pe_lst (pa_cons pe_str (pa_cons pe_str pa_nil))) (nomark _)))))))))) pss_nil)
      (pss_cons (ps_set (i := 7) sc_lMoved.nd rfl (.inl rfl) (pe_callB (call_sortedN (P := P) (w := w) rfl (hu10 hr)) (by rfl) T.b_sorted (by decide +kernel) (pa_cons (pv 3) pa_nil)))
      (pss_cons (ps_set (i := 6) sc_lMoved.nd rfl (.inl rfl) (pe_ix (r := rIxL K) ix_list (pv 7) (pe_op op_mod (pe_op op_fdiv (pv 2) pe_int) (pe_callB call_len_seq (by rfl) T.b_len (by decide +kernel) (pa_cons (pv 7) pa_nil))) (fun _ _ => rfl)))
      (C8.pss_cut (ps_if (PW.pt (pw_and (pt_cmpR (r := rNotN) op_notN1 (pe_dget (hu_of hr) (pv 1) pe_str (fun _ _ => rfl)) pe_non (nomark _)) (pw_and (pt_val (pe_callB (r := rIsi K) (id := "isinstance") call_isi (by rfl) T.b_isinstance (by decide +kernel) (pa_cons (pe_dget (hu_of hr) (pv 1) pe_str (fun _ _ => rfl)) (pa_cons (pe_ty (T := "tuple") T.b_tuple (by decide +kernel)) pa_nil)))) (pw_and1 (pt_not (pt_val (pe_callB (r := rIsi K) (id := "isinstance") call_isi (by rfl) T.b_isinstance (by decide +kernel) (pa_cons (pe_ix (r := rIxT K) ix_tup (pe_dget (hu_of hr) (pv 1) pe_str (fun _ _ => rfl)) pe_int (fun _ _ => rfl)) (pa_cons (pe_ty (T := "list") T.b_list (by decide +kernel)) pa_nil))))))))) (pss_one (ps_if (PW.pt (pw_and (pt_cmp (pc_ninB (P := P) (w := w) (hu9 hr) (pe_dget (hu_of hr) (pv 1) pe_str (fun _ _ => rfl)) (pv 3))) (pw_and1 (pt_not (pt_val (pe_callB (r := rIsi K) (id := "isinstance") call_isi (by rfl) T.b_isinstance (by decide +kernel) (pa_cons (pe_ix (r := rIxT K) ix_tup (pe_dget (hu_of hr) (pv 1) pe_str (fun _ _ => rfl)) pe_int (fun _ _ => rfl)) (pa_cons (pe_ty (T := "bool") T.b_bool (by decide +kernel)) pa_nil)))))))) (pss_one (ps_set (i := 6) sc_lMoved.nd rfl (.inl rfl) (pe_dget (hu_of hr) (pv 1) pe_str (fun _ _ => rfl)))) pss_nil)) pss_nil)
      (pss_cons (ps_if (pt_cmpR (r := rNeD K) (op_neD (hu64 hr)) (pe_def D_lTried (hr.mono (by omega)) (pa_cons (pv 0) (pa_cons pe_str (pa_cons (pv 6) pa_nil)))) (pe_lst (pa_cons pe_non pa_nil)) (nomark _)) (pss_one (ps_ret pe_bl)) pss_nil)
      (pss_cons (ps_dput (hu_of hr) (pv 1) pe_str (pe_nget (P := P) (w := w) (hu9 hr) (pv 3) (pv 6) (fun _ _ => rfl)) (by rfl))
      (pss_cons (ps_expr (pe_def D_lRenewed (hr.mono (by omega)) (pa_cons (pv 1) (pa_cons pe_int pa_nil))))
      (pss_one (ps_ret pe_bl)))))))))), ?_⟩
  have nwy := ok.one
  have zwy := ok.len
  have m6 := ok.most
  refine ⟨.ref o, rfl, o, .ref lo, rfl, dgV ho.at_ rfl, .ref o, rfl, o, .ref wo, rfl, dgV ho.at_ rfl, .ref o, rfl, o, .ref so, rfl, dgV ho.at_ rfl, lo, wo, so, ln, wy, S, rfl, .inl (.inl ho.hL), .inl (.inl ho.hW), ho.hS, ok, fun G1 F ms s1 hF eF iF => ?_⟩
  obtain ⟨ps, es, rfl, p1, p2⟩ := ents_moves (K := K) iF
  refine ⟨F, ps, es, rfl, .inl (.inl eF), ⟨p1, leads_at p2⟩, fun d od hd => ?_⟩
  rw [leads_once p2]
  have s2 := same_new (o := .frz od (dNO P w d es)) hd
  have dr : DR P w (upd G1 d (.frz od (dNO P w d es))) d es := DL.rd (o := od) ⟨upd_same, fun x hx => (leads_at p2 x hx).mono (Ti.of s2)⟩
  have p3 := leads_mono (Ti.of s2) p2
  have s12 := s1.trans s2
  generalize upd G1 d (.frz od (dNO P w d es)) = H1 at s2 dr p3 s12
  clear p1 p2 iF eF hF
  -- the test
  refine ⟨fun b G => Same H1 G ∧ (b = false → es ≠ []), ?_, fun b G hb => ?_⟩
  · refine ⟨.int ce, rfl, _, _, rfl, rfl, (by decide : (0 : Int) < 4), rfl, _, rfl, ?_⟩
    by_cases c4 : ce % 4 = 0
    · exact iteT' (decide_eq_true (congrArg V.int c4)) ⟨Same.refl _, fun h => nomatch h⟩
    refine iteF' (decide_eq_false (fun z => c4 (V.int.inj z))) ⟨.ref d, rfl, fun e he => ⟨d, e, es, ⟨rfl, rfl⟩, ⟨dr.same (same_new he), DN.rd ⟨upd_same, fun _ h => nomatch h⟩⟩, _, rfl, same_new he, fun h z => by rw [z] at h; cases h⟩⟩
  obtain ⟨s3, hne⟩ := hb
  have s13 := s12.trans s3
  have drG := dr.same s3
  have pG := leads_mono (Ti.of s3) p3
  have done : ∀ H', Same H H' → Q (.bl true) H' := fun H' s' => k H' S (Keep.of s') (Ti.of s') rfl (hs.keep (Keep.of (Z := []) s') (Ti.of s') (fun _ h => nomatch h) ⟨(fun h => nomatch h), (fun h => nomatch h), (fun h => nomatch h), (fun h => nomatch h)⟩)
  obtain ⟨dx, l2, c, shv, hp, h1, ⟨h2, n2⟩, hS, hsh⟩ := id hy
  have po : p ≠ o := fun z => by have := ho.at_; rw [← z, hp] at this; cases this
  have plo : p ≠ lo := fun z => by have := ho.hL; rw [← z, hp] at this; cases this
  have l1o : l1 ≠ o := fun z => by have := ho.at_; rw [← z, h1] at this; cases this
  have loo : lo ≠ o := fun z => by have := ho.at_; rw [← z, ho.hL] at this; cases this
  have wlen : (wy.map fun b => V.str (wS b)).length = wy.length := by rw [List.length_map]
  cases b with
  | true =>
    refine iteT ?_
    clear pG
    have s4 : Same H G := s13
    refine ⟨szK (by simp), fun l hl => ?_⟩
    have u1 := same_new (o := .lst [.str "go", .str "aside", .str "on", .str "back"]) hl
    have el : (upd G l (.lst [.str "go", .str "aside", .str "on", .str "back"])) l = some (.lst [.str "go", .str "aside", .str "on", .str "back"]) := upd_same
    generalize upd G l (.lst [.str "go", .str "aside", .str "on", .str "back"]) = A1 at u1 el
    obtain ⟨wd, ewd, hwd⟩ : ∃ wd : Str, atI [V.str "go", .str "aside", .str "on", .str "back"] (ce / 4 % 4) = some (.str wd) ∧ PyData.canLay0 (.str wd) = true := by
      have i0 := Int.emod_nonneg (ce / 4) (show (4 : Int) ≠ 0 by decide)
      have i9 := Int.emod_lt_of_pos (ce / 4) (show (0 : Int) < 4 by decide)
      have e9 : ce / 4 % 4 = 0 ∨ ce / 4 % 4 = 1 ∨ ce / 4 % 4 = 2 ∨ ce / 4 % 4 = 3 := by omega
      rcases e9 with e | e | e | e <;> rw [e]
      · exact ⟨_, atI_nat (j := 0) rfl, by decide +kernel⟩
      · exact ⟨_, atI_nat (j := 1) rfl, by decide +kernel⟩
      · exact ⟨_, atI_nat (j := 2) rfl, by decide +kernel⟩
      · exact ⟨_, atI_nat (j := 3) rfl, by decide +kernel⟩
    refine ⟨.int ce, rfl, _, _, rfl, rfl, (by decide : (0 : Int) < 4 ∧ _), _, _, rfl, rfl, (by decide : (0 : Int) < 4), l, _, _, .str wd, rfl, rfl, .inl (.inl el), ewd, ?_⟩
    have v1 := s4.trans u1
    have kN : ce / 16 % (wy.length : Int) = ((ce / 16 % (wy.length : Int)).toNat : Nat) ∧ (ce / 16 % (wy.length : Int)).toNat < wy.length := by
      have a := Int.emod_nonneg (ce / 16) (show (wy.length : Int) ≠ 0 by omega)
      have b := Int.emod_lt_of_pos (ce / 16) (show (0 : Int) < (wy.length : Int) by omega)
      omega
    obtain ⟨kk, ek, hk⟩ : ∃ kk : Nat, ce / 16 % (((wy.map fun b => V.str (wS b)).length : Nat) : Int) = kk ∧ kk < wy.length := ⟨_, by rw [wlen]; exact kN.1, kN.2⟩
    refine ⟨.str wd, rfl, .int ce, rfl, _, _, rfl, rfl, (by decide : (0 : Int) < 16 ∧ _), .ref o, rfl, o, .ref wo, rfl, dgV (v1 _ _ ho.at_) rfl, wo, _, rfl, .inl (.inl (.inl (v1 _ _ ho.hW))), _, _, rfl, rfl, (by show (0 : Int) < _; rw [wlen]; omega), two_size, nT_q fun A2 m1 u2 t1 => ?_⟩
    rw [show (fun i j : Int => V.int (i % j)) (ce / 16) (((wy.map fun b => V.str (wS b)).length : Nat) : Int) = V.int (kk : Nat) from congrArg V.int ek] at t1
    have v2 := v1.trans u2
    refine ⟨.ref o, rfl, o, .ref wo, rfl, dgV (v2 _ _ ho.at_) rfl, wo, _, rfl, .inl (.inl (.inl (v2 _ _ ho.hW))), two_size, nT_q fun A3 m2 u3 t2 => ?_⟩
    have v3 := v2.trans u3
    refine ⟨two_size, nT_q fun A4 m3 u4 t3 => ?_⟩
    refine ⟨two_size, fun m4 hm4 => ?_⟩
    have u5 := same_new (o := .lst [.str "go", .int 0]) hm4
    have em4 : (upd A4 m4 (.lst [.str "go", .int 0])) m4 = some (.lst [.str "go", .int 0]) := upd_same
    generalize upd A4 m4 (.lst [.str "go", .int 0]) = A5 at u5 em4
    have v4 := v3.trans u4
    have f4 : H m4 = none := v4.free hm4
    refine ⟨by simp only [List.length_cons, List.length_nil]; exact szK (by decide), fun m5 hm5 => ?_⟩
    dsimp only
    have u6 := same_new (o := .lst [.ref m1, .ref m2, .ref m3, .non, .ref m4]) hm5
    have em5 : (upd A5 m5 (.lst [.ref m1, .ref m2, .ref m3, .non, .ref m4])) m5 = some (.lst [.ref m1, .ref m2, .ref m3, .non, .ref m4]) := upd_same
    have v5 := v4.trans u5
    have f5 : H m5 = none := v5.free hm5
    generalize upd A5 m5 (.lst [.ref m1, .ref m2, .ref m3, .non, .ref m4]) = A6 at u6 em5
    have v6 := v5.trans u6
    refine ⟨.ref m5, rfl, .inl ⟨rfl, _, .inl (.inl em5)⟩, one_size, fun m6 hm6 => ?_⟩
    have u7 := same_new (o := .lst [.int 0]) hm6
    have em6 : (upd A6 m6 (.lst [.int 0])) m6 = some (.lst [.int 0]) := upd_same
    have f6 : H m6 = none := v6.free hm6
    generalize upd A6 m6 (.lst [.int 0]) = A7 at u7 em6
    have v7 := v6.trans u7
    refine ⟨two_size, nT_q fun A8 m7 u8 t7 => ?_⟩
    have v8 := v7.trans u8
    have n65 : m6 ≠ m5 := fun z => by rw [z, em5] at hm6; cases hm6
    have n45 : m4 ≠ m5 := fun z => by rw [← z, em4] at hm5; cases hm5
    have em58 := u8 _ _ (u7 _ _ em5)
    refine ⟨m5, _, .ref m7, rfl, rfl, em58, (by show 5 < sizeLine; decide), ?_⟩
    have v9 : Same H (upd A8 m5 (.lst ([.ref m1, .ref m2, .ref m3, .non, .ref m4] ++ [.ref m7]))) := same_mut v8 f5
    have tl := Ti.lst (o := .lst ([.ref m1, .ref m2, .ref m3, .non, .ref m4] ++ [.ref m7])) em58
    have tt1 := tl _ _ ((((((Ti.of u3).trans (Ti.of u4)).trans (Ti.of u5)).trans (Ti.of u6)).trans ((Ti.of u7).trans (Ti.of u8))) _ _ t1)
    have tt2 := tl _ _ (((((Ti.of u4).trans (Ti.of u5)).trans (Ti.of u6)).trans ((Ti.of u7).trans (Ti.of u8))) _ _ t2)
    have tt3 := tl _ _ ((((Ti.of u5).trans (Ti.of u6)).trans ((Ti.of u7).trans (Ti.of u8))) _ _ t3)
    have tt7 := tl _ _ t7
    have e4 : (upd A8 m5 (.lst ([.ref m1, .ref m2, .ref m3, .non, .ref m4] ++ [.ref m7]))) m4 = some (.lst [.str "go", .int 0]) := by rw [upd_ne n45]; exact u8 _ _ (u7 _ _ (u6 _ _ em4))
    have e6 : (upd A8 m5 (.lst ([.ref m1, .ref m2, .ref m3, .non, .ref m4] ++ [.ref m7]))) m6 = some (.lst [.int 0]) := by rw [upd_ne n65]; exact u8 _ _ em6
    have e5 : (upd A8 m5 (.lst ([.ref m1, .ref m2, .ref m3, .non, .ref m4] ++ [.ref m7]))) m5 = some (.lst [.ref m1, .ref m2, .ref m3, .non, .ref m4, .ref m7]) := upd_same
    have d9 : DR P w (upd A8 m5 (.lst ([.ref m1, .ref m2, .ref m3, .non, .ref m4] ++ [.ref m7]))) d es := by
      have sd : Same H1 (upd A8 m5 (.lst ([.ref m1, .ref m2, .ref m3, .non, .ref m4] ++ [.ref m7]))) := same_mut (s3.trans (u1.trans (u2.trans (u3.trans (u4.trans (u5.trans (u6.trans (u7.trans u8)))))))) ((s3.trans (u1.trans (u2.trans (u3.trans (u4.trans u5))))).free hm5)
      exact dr.same sd
    have p9 : Paired (Leads (upd A8 m5 (.lst ([.ref m1, .ref m2, .ref m3, .non, .ref m4] ++ [.ref m7]))) S) es (allPairs ln wy S) := by
      have sd : Same H1 (upd A8 m5 (.lst ([.ref m1, .ref m2, .ref m3, .non, .ref m4] ++ [.ref m7]))) := same_mut (s3.trans (u1.trans (u2.trans (u3.trans (u4.trans (u5.trans (u6.trans (u7.trans u8)))))))) ((s3.trans (u1.trans (u2.trans (u3.trans (u4.trans u5))))).free hm5)
      exact leads_mono (Ti.of sd) p3
    generalize upd A8 m5 (.lst ([.ref m1, .ref m2, .ref m3, .non, .ref m4] ++ [.ref m7])) = B at v9 tt1 tt2 tt3 tt7 e4 e5 e6 d9 p9
    clear tl em58 t1 t2 t3 t7 u1 u2 u3 u4 u5 u6 u7 u8 el em4 em5 em6
    refine ⟨.ref m5, rfl, szK (by simp), fun l9 hl9 => ?_⟩
    have w1 := same_new (o := .lst [.int 0, .int 0, .int 0, .int 0, .int 1, .int 2, .int 3, .int 4, .int 5]) hl9
    have el9 : (upd B l9 (.lst [.int 0, .int 0, .int 0, .int 0, .int 1, .int 2, .int 3, .int 4, .int 5])) l9 = some (.lst [.int 0, .int 0, .int 0, .int 0, .int 1, .int 2, .int 3, .int 4, .int 5]) := upd_same
    generalize upd B l9 (.lst [.int 0, .int 0, .int 0, .int 0, .int 1, .int 2, .int 3, .int 4, .int 5]) = B1 at w1 el9
    obtain ⟨ix, eix, hix⟩ : ∃ ix : Nat, atI [V.int 0, .int 0, .int 0, .int 0, .int 1, .int 2, .int 3, .int 4, .int 5] (ce / 64 % 9) = some (.int (ix : Nat)) ∧ ix ≤ 5 := by
      have i0 := Int.emod_nonneg (ce / 64) (show (9 : Int) ≠ 0 by decide)
      have i9 := Int.emod_lt_of_pos (ce / 64) (show (0 : Int) < 9 by decide)
      have e9 : ce / 64 % 9 = 0 ∨ ce / 64 % 9 = 1 ∨ ce / 64 % 9 = 2 ∨ ce / 64 % 9 = 3 ∨ ce / 64 % 9 = 4 ∨ ce / 64 % 9 = 5 ∨ ce / 64 % 9 = 6 ∨ ce / 64 % 9 = 7 ∨ ce / 64 % 9 = 8 := by omega
      rcases e9 with e | e | e | e | e | e | e | e | e <;> rw [e]
      · exact ⟨0, atI_nat (j := 0) rfl, by decide⟩
      · exact ⟨0, atI_nat (j := 1) rfl, by decide⟩
      · exact ⟨0, atI_nat (j := 2) rfl, by decide⟩
      · exact ⟨0, atI_nat (j := 3) rfl, by decide⟩
      · exact ⟨1, atI_nat (j := 4) rfl, by decide⟩
      · exact ⟨2, atI_nat (j := 5) rfl, by decide⟩
      · exact ⟨3, atI_nat (j := 6) rfl, by decide⟩
      · exact ⟨4, atI_nat (j := 7) rfl, by decide⟩
      · exact ⟨5, atI_nat (j := 8) rfl, by decide⟩
    refine ⟨.int ce, rfl, _, _, rfl, rfl, (by decide : (0 : Int) < 64 ∧ _), _, _, rfl, rfl, (by decide : (0 : Int) < 9), l9, _, _, _, rfl, rfl, .inl (.inl el9), eix, ?_⟩
    obtain ⟨x, ex, px⟩ : ∃ x : V, atI [V.ref m1, .ref m2, .ref m3, .non, .ref m4, .ref m7] (ix : Nat) = some x ∧ (x = .ref m1 ∨ x = .ref m2 ∨ x = .ref m3 ∨ x = .non ∨ x = .ref m4 ∨ x = .ref m7) := by
      have e9 : ix = 0 ∨ ix = 1 ∨ ix = 2 ∨ ix = 3 ∨ ix = 4 ∨ ix = 5 := by omega
      rcases e9 with rfl | rfl | rfl | rfl | rfl | rfl
      · exact ⟨_, atI_nat (j := 0) rfl, .inl rfl⟩
      · exact ⟨_, atI_nat (j := 1) rfl, .inr (.inl rfl)⟩
      · exact ⟨_, atI_nat (j := 2) rfl, .inr (.inr (.inl rfl))⟩
      · exact ⟨_, atI_nat (j := 3) rfl, .inr (.inr (.inr (.inl rfl)))⟩
      · exact ⟨_, atI_nat (j := 4) rfl, .inr (.inr (.inr (.inr (.inl rfl))))⟩
      · exact ⟨_, atI_nat (j := 5) rfl, .inr (.inr (.inr (.inr (.inr rfl))))⟩
    refine ⟨m5, _, _, x, rfl, rfl, .inl (.inl (w1 _ _ e5)), ex, ?_⟩
    have v10 := v9.trans w1
    have d10 := d9.same w1
    have p10 := leads_mono (Ti.of w1) p9
    have tw := Ti.of w1
    refine ⟨fun b G2 => Same B1 G2 ∧ (b = true ∨ (b = false ∧ Odd Z G2 ln wy S x)), ?_, fun b G2 hb2 => ?_⟩
    · have x1 := tw _ _ tt1
      have x2 := tw _ _ tt2
      have x3 := tw _ _ tt3
      have x7 := tw _ _ tt7
      rcases px with rfl | rfl | rfl | rfl | rfl | rfl
      · obtain ⟨oo, eoo, _⟩ := id x1
        refine ⟨.ref m1, rfl, .ref m1, .ty "tuple", .type "tuple", .type "tuple", true, rfl, .ty _, .fTuple eoo, by rfl, _, rfl, iteT ⟨.ref m1, rfl, m1, _, 1, _, rfl, rfl, x1.sq, at1, _, rfl, .inl ⟨_, rfl, _, rfl, iteT ?_⟩⟩⟩
        refine ⟨.ref m1, rfl, .ref d, rfl, d, m1, es, .tup [.text wd, .num (kk : Nat)], ⟨rfl, rfl⟩, ⟨d10, key_wd x1⟩, _, rfl, Same.refl _, ?_⟩
        cases hk2 : (valN es (.tup [.text wd, .num (kk : Nat)])).isSome with
        | true => exact .inl rfl
        | false =>
          refine .inr ⟨rfl, .mv x1 (by omega) ?_ fun w' hw' e => ?_⟩
          · simp [SeqAt.shaped, PyData.canLay0, PyData.canLayAll0, PyData.depth, PyData.depthAll]
            simpa [PyData.canLay0] using hwd
          · obtain ⟨c', hc', ec'⟩ := List.mem_map.mp hw'
            obtain ⟨v, sp', _, hv, _⟩ := val_led p10 (m := c'.1) (sp := c'.2) hc'
            rw [ec'] at hv
            have : kMv (w', kk) = .tup [.text wd, .num (kk : Nat)] := by show NestedKey.tup [.text (dW w'), .num (kk : Nat)] = _; rw [e]
            rw [this] at hv
            rw [hv] at hk2
            cases hk2
      · obtain ⟨oo, eoo, _⟩ := id x2
        refine ⟨.ref m2, rfl, .ref m2, .ty "tuple", .type "tuple", .type "tuple", true, rfl, .ty _, .fTuple eoo, by rfl, _, rfl, iteT ⟨.ref m2, rfl, m2, _, 1, _, rfl, rfl, x2.sq, at1, _, rfl, .inl ⟨_, rfl, _, rfl, iteT ?_⟩⟩⟩
        refine ⟨.ref m2, rfl, .ref d, rfl, d, m2, es, .tup [.text "go", .num (((wy.map fun b => V.str (wS b)).length : Nat) : Int)], ⟨rfl, rfl⟩, ⟨d10, key_wd x2⟩, _, rfl, Same.refl _, ?_⟩
        cases hk2 : (valN es (.tup [.text "go", .num (((wy.map fun b => V.str (wS b)).length : Nat) : Int)])).isSome with
        | true => exact .inl rfl
        | false => exact .inr ⟨rfl, .far x2 (by rw [wlen]; omega)⟩
      · obtain ⟨oo, eoo, _⟩ := id x3
        exact ⟨.ref m3, rfl, .ref m3, .ty "tuple", .type "tuple", .type "tuple", true, rfl, .ty _, .fTuple eoo, by rfl, _, rfl, iteT ⟨.ref m3, rfl, m3, _, 1, _, rfl, rfl, x3.sq, at1, _, rfl, .inr ⟨.inl rfl, _, rfl, iteF ⟨Same.refl _, .inr ⟨rfl, .bl x3⟩⟩⟩⟩⟩
      · exact ⟨.non, rfl, .non, .ty "tuple", .type "NoneType", .type "tuple", false, rfl, .ty _, .base .non, kit_ty (by decide +kernel), _, rfl, iteF ⟨Same.refl _, .inr ⟨rfl, .non⟩⟩⟩
      · have e4' := w1 _ _ e4
        exact ⟨.ref m4, rfl, .ref m4, .ty "tuple", .type "list", .type "tuple", false, rfl, .ty _, .base (.lst e4'), kit_ty (by decide +kernel), _, rfl, iteF ⟨Same.refl _, .inr ⟨rfl, .lst e4' fun z => ap.all _ z f4⟩⟩⟩
      · obtain ⟨oo, eoo, _⟩ := id x7
        have e6' := w1 _ _ e6
        exact ⟨.ref m7, rfl, .ref m7, .ty "tuple", .type "tuple", .type "tuple", true, rfl, .ty _, .fTuple eoo, by rfl, _, rfl, iteT ⟨.ref m7, rfl, m7, _, 1, _, rfl, rfl, x7.sq, at1, _, rfl, .inr ⟨.inr ⟨m6, _, rfl, e6'⟩, _, rfl, iteF ⟨Same.refl _, .inr ⟨rfl, .inner x7 e6' fun z => ap.all _ z f6⟩⟩⟩⟩⟩
    obtain ⟨w2, hb2⟩ := hb2
    have v11 := v10.trans w2
    rcases hb2 with rfl | ⟨rfl, od⟩
    · exact iteT (done _ v11)
    refine iteF ?_
    have eoG := v11 _ _ ho.at_
    refine ⟨x, rfl, .ref o, rfl, o, _, rfl, .k (k := .inr "refused") eoG seven_size, ?_⟩
    rw [okv_refused]
    have hoG := ho.keep (Keep.of (Z := []) v11) (Ti.of v11) (fun _ h => nomatch h) (fun h => nomatch h) (fun h => nomatch h)
    have hyG := hy.same v11
    have kC : Keep [o] G2 (upd G2 o (.dK (okv (.ref lo) (.ref wo) (.ref so) (.int g) x (.ref kd) (.int (L.length : Nat))))) := Keep.refl.upd (List.mem_singleton.mpr rfl)
    have tC : Ti G2 (upd G2 o (.dK (okv (.ref lo) (.ref wo) (.ref so) (.int g) x (.ref kd) (.int (L.length : Nat))))) := Ti.odict eoG
    have eC : (upd G2 o (.dK (okv (.ref lo) (.ref wo) (.ref so) (.int g) x (.ref kd) (.int (L.length : Nat))))) o = some (.dK (okv (.ref lo) (.ref wo) (.ref so) (.int g) x (.ref kd) (.int (L.length : Nat)))) := upd_same
    generalize upd G2 o (.dK (okv (.ref lo) (.ref wo) (.ref so) (.int g) x (.ref kd) (.int (L.length : Nat)))) = C at kC tC eC
    have sub : ∀ a ∈ [o], a ∈ Z := fun a ha => by rw [List.mem_singleton.mp ha]; exact ap.ho
    have odC := od.keep kC tC sub
    have hyC := hyG.keep kC tC sub (by simpa using po) (by simpa using l1o)
    have no1 : ∀ {a : Addr}, a ∉ Z → a ∉ [o] := fun h z => h (sub _ z)
    have hoC : OKv P w Z C o lo ln wy S g x wo so kd ks L := ⟨eC, Nat.le_refl 7, rfl, rfl, rfl, rfl, rfl, rfl, rfl, kC.1 _ _ hoG.hL (by simpa using loo), kC.1 _ _ hoG.hW (no1 hoG.nW), hoG.nW, hoG.hS.mono tC, hoG.hK.keep kC tC (no1 hoG.nK), hoG.nK, odC.ref⟩
    have sideC : SideAt P w CY Z C p l1 o lo ln wy S := ⟨⟨sh, g, x, wo, so, kd, ks, L, hyC, hoC, oks, hg⟩, ok, few⟩
    have kA : Keep [p, l1, o, lo] H C := (Keep.of v11).trans (kC.sub (by simp))
    refine ⟨.ref p, rfl, x, rfl, Z, p, l1, ln, wy, S, sh, "do", x, rfl, hyC, ok, ⟨ap.hl1, fun a ha => kA.2 a (ap.all a ha)⟩, .inl ⟨rfl, .inr ⟨odC.no, fun H3 r s5 hr' er => ?_⟩⟩⟩
    refine ⟨two_size, fun m hm => dMV_eq (same_new hm _ _ er) upd_same ?_⟩
    have s6 := s5.trans (same_new (o := .lst [.str "move", .str "value"]) hm)
    exact k _ S (kA.trans (Keep.of s6)) (((Ti.of v11).trans tC).trans (Ti.of s6)) rfl (sideC.keep (Keep.of (Z := []) s6) (Ti.of s6) (fun _ h => nomatch h) ⟨(fun h => nomatch h), (fun h => nomatch h), (fun h => nomatch h), (fun h => nomatch h)⟩)
  | false =>
    refine iteF ?_
    have ne := hne rfl
    let cs : List VD := es.map fun e => (V.ref e.2.1, e.1.data)
    have c2 : cs.map (·.2) = ((allPairs ln wy S).map (·.1)).map dM := by
      have e1 : cs.map (·.2) = (es.map (·.1)).map NestedKey.data := by
        show (es.map fun e => (V.ref e.2.1, e.1.data)).map (·.2) = _
        rw [List.map_map, List.map_map]
        rfl
      rw [e1, leads_keys pG, List.map_map, List.map_map, List.map_map]
      rfl
    have zc : cs.length = es.length := List.length_map ..
    have ze : es.length = (allPairs ln wy S).length := Paired.length pG
    have zp := pairs_len ok
    refine ⟨.ref d, rfl, d, es, rfl, drG, sort_moves c2 (Nat.le_trans (by omega : cs.length ≤ 12) (by decide)), fun ml hml => ?_⟩
    have u1 := same_new (o := .lst ((srt (es.map fun e => (V.ref e.2.1, e.1.data))).map (·.1))) hml
    have em : (upd G ml (.lst ((srt (es.map fun e => (V.ref e.2.1, e.1.data))).map (·.1)))) ml = some (.lst ((srt (es.map fun e => (V.ref e.2.1, e.1.data))).map (·.1))) := upd_same
    generalize upd G ml (.lst ((srt (es.map fun e => (V.ref e.2.1, e.1.data))).map (·.1))) = G2 at u1 em
    have pm : (srt cs).Perm cs := List.mergeSort_perm _ _
    have zl : ((srt cs).map (·.1)).length = es.length := by rw [List.length_map, pm.length_eq, zc]
    have ne0 : 0 < es.length := List.length_pos_iff.mpr ne
    have kN : ce / 4 % (es.length : Int) = ((ce / 4 % (es.length : Int)).toNat : Nat) ∧ (ce / 4 % (es.length : Int)).toNat < es.length := by
      have a := Int.emod_nonneg (ce / 4) (show (es.length : Int) ≠ 0 by omega)
      have b := Int.emod_lt_of_pos (ce / 4) (show (0 : Int) < (es.length : Int) by omega)
      omega
    obtain ⟨j, ej, hj⟩ : ∃ j : Nat, ce / 4 % ((((srt cs).map (·.1)).length : Nat) : Int) = j ∧ j < (srt cs).length := ⟨_, by rw [zl]; exact kN.1, by rw [pm.length_eq, zc]; exact kN.2⟩
    have hmem : (srt cs)[j] ∈ cs := pm.mem_iff.mp (List.getElem_mem hj)
    obtain ⟨e0, he0, ee0⟩ := List.mem_map.mp hmem
    obtain ⟨i0, hi0⟩ := List.mem_iff_getElem?.mp he0
    obtain ⟨c0, hc0, q0⟩ := paired_get pG hi0
    obtain ⟨m0, sp0⟩ := c0
    have hm0 : MoveAt G e0.2.1 m0 := by
      obtain ⟨a, e1, h⟩ := im_move q0.2.1.1
      cases e1
      exact h
    have v2 := s13.trans u1
    refine ⟨.ref ml, rfl, .int ce, rfl, _, _, rfl, rfl, (by decide : (0 : Int) < 4 ∧ _), .ref ml, rfl, ml, _, rfl, .inl (.inl (.inl em)), _, _, rfl, rfl, (by show (0 : Int) < ((((srt cs).map (·.1)).length : Nat) : Int); rw [zl]; omega), ml, _, (j : Nat), .ref e0.2.1, rfl, congrArg V.int ej, .inl (.inl em), atI_nat (by
      show ((srt cs).map (·.1))[j]? = _
      rw [List.getElem?_map, List.getElem?_eq_getElem hj, ← ee0]; rfl), ?_⟩
    refine ⟨fun σ G' => Same H G' ∧ DR P w G' d es ∧ Paired (Leads G' S) es (allPairs ln wy S) ∧ ∃ pm m sp y7, σ = [some (.ref p), some (.ref o), some (.int ce), some (.ref d), none, none, some (.ref pm), y7] ∧ MoveAt G' pm m ∧ (m, sp) ∈ allPairs ln wy S, ?_, fun σ G' mid => ?_⟩
    · have ho2 := ho.keep (Keep.of (Z := []) v2) (Ti.of v2) (fun _ h => nomatch h) (fun h => nomatch h) (fun h => nomatch h)
      have fine : ∀ (σ : L2.St), σ = [some (.ref p), some (.ref o), some (.int ce), some (.ref d), none, none, some (.ref e0.2.1), some (.ref ml)] → Same H G2 ∧ DR P w G2 d es ∧ Paired (Leads G2 S) es (allPairs ln wy S) ∧ ∃ pm m sp y7, σ = [some (.ref p), some (.ref o), some (.int ce), some (.ref d), none, none, some (.ref pm), y7] ∧ MoveAt G2 pm m ∧ (m, sp) ∈ allPairs ln wy S :=
        fun σ e => ⟨v2, drG.same u1, leads_mono (Ti.of u1) pG, e0.2.1, m0, sp0, _, e, Ti.of u1 _ _ hm0, mem_of_some hc0⟩
      have hrf := ho2.ref
      have rfd := dgV ho2.at_ ho2.refused
      have dr2 := drG.same u1
      have p2 := leads_mono (Ti.of u1) pG
      cases hrf with
      | non => exact ⟨.ref o, rfl, o, .non, rfl, rfd, rfl, _, rfl, iteF' (by simp) (fine _ rfl)⟩
      | lst e n => 
        refine ⟨.ref o, rfl, o, _, rfl, rfd, rfl, _, rfl, iteT' (by simp) ⟨.ref o, rfl, o, _, rfl, rfd, _, .ty "tuple", .type "list", .type "tuple", false, rfl, .ty _, .base (.lst e), kit_ty (by decide +kernel), _, rfl, iteF (fine _ rfl)⟩⟩
      | @int pp wd i e =>
        obtain ⟨oo, eoo, _⟩ := id e
        refine ⟨.ref o, rfl, o, _, rfl, rfd, rfl, _, rfl, iteT' (by simp) ⟨.ref o, rfl, o, _, rfl, rfd, _, .ty "tuple", .type "tuple", .type "tuple", true, rfl, .ty _, .fTuple eoo, by rfl, _, rfl, iteT ⟨.ref o, rfl, o, _, rfl, rfd, pp, _, 1, _, rfl, rfl, e.sq, at1, .int i, .ty "list", .type "int", .type "list", false, rfl, .ty _, .base (.int i), kit_ty (by decide +kernel), _, rfl, iteT' rfl ?_⟩⟩⟩
        refine ⟨.ref o, rfl, o, _, rfl, rfd, .ref d, rfl, d, pp, es, .tup [.text wd, .num i], ⟨rfl, rfl⟩, ⟨dr2, .inl (key_wd e)⟩, _, rfl, ?_⟩
        cases hk2 : (valN es (.tup [.text wd, .num i])).isSome with
        | false => exact iteF (iteF (fine _ rfl))
        | true =>
          refine iteT ⟨.ref o, rfl, o, _, rfl, rfd, pp, _, 1, _, rfl, rfl, e.sq, at1, .int i, .ty "bool", .type "int", .type "bool", false, rfl, .ty _, .base (.int i), kit_ty (by decide +kernel), _, rfl, iteT' rfl ?_⟩
          obtain ⟨m, rfl, rfl, sp, hm⟩ := key_move p2 hk2
          exact ⟨.ref o, rfl, o, _, rfl, rfd, v2, dr2, p2, pp, m, sp, _, rfl, e, hm⟩
      | @bl pp wd c e =>
        obtain ⟨oo, eoo, _⟩ := id e
        refine ⟨.ref o, rfl, o, _, rfl, rfd, rfl, _, rfl, iteT' (by simp) ⟨.ref o, rfl, o, _, rfl, rfd, _, .ty "tuple", .type "tuple", .type "tuple", true, rfl, .ty _, .fTuple eoo, by rfl, _, rfl, iteT ⟨.ref o, rfl, o, _, rfl, rfd, pp, _, 1, _, rfl, rfl, e.sq, at1, .bl c, .ty "list", .type "bool", .type "list", false, rfl, .ty _, .base (.bl c), kit_ty (by decide +kernel), _, rfl, iteT' rfl ?_⟩⟩⟩
        refine ⟨.ref o, rfl, o, _, rfl, rfd, .ref d, rfl, d, pp, es, _, ⟨rfl, rfl⟩, ⟨dr2, .inr ⟨wd, c, rfl, e⟩⟩, _, rfl, ?_⟩
        cases hk2 : (valN es (.tup [.text wd, .num (if c = true then 1 else 0)])).isSome with
        | false => exact iteF (iteF (fine _ rfl))
        | true => exact iteT ⟨.ref o, rfl, o, _, rfl, rfd, pp, _, 1, _, rfl, rfl, e.sq, at1, .bl c, .ty "bool", .type "bool", .type "bool", true, rfl, .ty _, .base (.bl c), by rfl, _, rfl, iteF' rfl (fine _ rfl)⟩
      | @inner pp l' wd xs e e2 n =>
        obtain ⟨oo, eoo, _⟩ := id e
        exact ⟨.ref o, rfl, o, _, rfl, rfd, rfl, _, rfl, iteT' (by simp) ⟨.ref o, rfl, o, _, rfl, rfd, _, .ty "tuple", .type "tuple", .type "tuple", true, rfl, .ty _, .fTuple eoo, by rfl, _, rfl, iteT ⟨.ref o, rfl, o, _, rfl, rfd, pp, _, 1, _, rfl, rfl, e.sq, at1, .ref l', .ty "list", .type "list", .type "list", true, rfl, .ty _, .base (.lst e2), by rfl, _, rfl, iteF' rfl (fine _ rfl)⟩⟩⟩
    obtain ⟨v3, dr3, p3', pm', m, sp, y7, rfl, hmv, hin⟩ := mid
    obtain ⟨v, sp', hin', hval, imv⟩ := val_led p3' hin
    obtain ⟨hmS, hch⟩ := pair_choice hin'
    have hy3 := hy.same v3
    refine ⟨.ref p, rfl, .ref pm', rfl, Z, p, l1, ln, wy, S, sh, "do", .ref pm', rfl, hy3, ok, ⟨ap.hl1, fun a ha => (Keep.of (Z := []) v3).2 a (ap.all a ha)⟩, .inl ⟨rfl, .inl ⟨pm', m, sp', rfl, hmv, hmS, hch, fun H3 r k3 t3 hr' hy3' er => ?_⟩⟩⟩
    refine ⟨one_size, fun q hq => ?_⟩
    have s4 := same_new (o := .lst [.non]) hq
    have eq : (upd H3 q (.lst [.non])) q = some (.lst [.non]) := upd_same
    generalize upd H3 q (.lst [.non]) = H4 at s4 eq
    refine ⟨.list [.none], .list [.none], .lst (.inl (.inl (s4 _ _ er))) (.cons .non .nil), .lst (.inl (.inl eq)) (.cons .non .nil), by decide +kernel, by decide +kernel, _, rfl, iteF' rfl ?_⟩
    have k4 : Keep [p] G' H4 := k3.trans (Keep.of s4)
    have t4 := t3.trans (Ti.of s4)
    have sub1 : ∀ a ∈ [p], a ∈ Z := fun a ha => by rw [List.mem_singleton.mp ha]; exact ap.hp
    have ho3 := ho.keep (Keep.of (Z := []) v3) (Ti.of v3) (fun _ h => nomatch h) (fun h => nomatch h) (fun h => nomatch h)
    have ho4 := ho3.keep k4 t4 sub1 (by simpa using po.symm) (by simpa using plo.symm)
    have dr4 : DR P w H4 d es := ⟨by
      rcases dr3.at_ with e | ⟨oo, e⟩
      · exact .inl (k4.1 _ _ e (by simp; intro z; rw [z, v3 _ _ hp] at e; cases e))
      · exact .inr ⟨oo, k4.1 _ _ e (by simp; intro z; rw [z, v3 _ _ hp] at e; cases e)⟩, fun x hx => (dr3.keys x hx).mono t4⟩
    have key4 : KeyAt H4 pm' (kMv m) := by
      have := (hmv.im).mono t4
      exact ⟨this, kMv_depth m⟩
    obtain ⟨h', rfl, hT'⟩ := im_standAt (imv.mono t4)
    refine ⟨.ref d, rfl, .ref pm', rfl, d, pm', es, kMv m, ⟨rfl, rfl⟩, ⟨dr4, key4⟩, .ref h', hval, .ref o, rfl, o, _, rfl, .k (k := .inr "stand") ho4.at_ seven_size, ?_⟩
    rw [okv_stand]
    have ok2 := ok.set hch
    have zS : (S.set m.2 sp').length = S.length := List.length_set ..
    have few2 : Few ln (S.set m.2 sp') := by
      unfold Few at few ⊢
      rw [zS]
      exact few
    have sub : ∀ a ∈ [o], a ∈ Z := fun a ha => by rw [List.mem_singleton.mp ha]; exact ap.ho
    have kC : Keep [o] H4 (upd H4 o (.dK (okv (.ref lo) (.ref wo) (.ref h') (.int g) rf (.ref kd) (.int (L.length : Nat))))) := Keep.refl.upd (List.mem_singleton.mpr rfl)
    have tC : Ti H4 (upd H4 o (.dK (okv (.ref lo) (.ref wo) (.ref h') (.int g) rf (.ref kd) (.int (L.length : Nat))))) := Ti.odict ho4.at_
    have eC : (upd H4 o (.dK (okv (.ref lo) (.ref wo) (.ref h') (.int g) rf (.ref kd) (.int (L.length : Nat))))) o = some (.dK (okv (.ref lo) (.ref wo) (.ref h') (.int g) rf (.ref kd) (.int (L.length : Nat)))) := upd_same
    generalize upd H4 o (.dK (okv (.ref lo) (.ref wo) (.ref h') (.int g) rf (.ref kd) (.int (L.length : Nat)))) = C at kC tC eC
    refine ⟨.ref o, rfl, Z, o, lo, wo, h', ln, wy, S.set m.2 sp', 0, (L.length : Nat), .int g, .ref kd, rf, rfl, eC, kC.1 _ _ ho4.hL (by simpa using loo), ⟨kC.1 _ _ ho4.hW (fun z => ho.nW (sub _ z)), ho.nW⟩, hT'.mono tC, ok2, few2, ho4.ref.keep kC tC sub, ⟨ap.ho, fun a ha => kC.2 a (k4.2 a ((Keep.of (Z := []) v3).2 a (ap.all a ha)))⟩, ⟨by decide, by decide⟩, fun H6 kd' ks' L' k6 t6 ho6 => ?_⟩
    have kA : Keep [o] H3 H6 := (Keep.of s4).trans (kC.trans k6)
    have tA : Ti H3 H6 := (Ti.of s4).trans (tC.trans t6)
    have hy6 := hy3'.keep kA tA sub (by simpa using po) (by simpa using l1o)
    refine k H6 (S.set m.2 sp') ((Keep.of v3).trans ((k3.sub (by simp)).trans (kA.sub (by simp)))) ((Ti.of v3).trans (t3.trans tA)) zS ⟨⟨none, _, rf, wo, h', kd', ks', L', hy6, ho6, True.intro, by show _ = 0; omega⟩, ok2, few2⟩
end
end Slx

set_option Elab.async false
set_option linter.all false
set_option maxRecDepth 100000
set_option maxHeartbeats 4000000
namespace Slx
open PySem PySem.Spec PyProof.Rows L2 Sl
/-! ### a stand cut to fewer trains and places -/
def ownSpot : Spot → Spot
  | .out => .out
  | .lane p => if p < 4 then .lane p else .out
  | .side p => if p < 4 then .side p else .out
theorem ownSpot_eq {x s : Spot} (h : ownSpot x = s) (n : s ≠ .out) : x = s := by
  cases x with
  | out => exact h
  | lane p => 
    unfold ownSpot at h
    dsimp only at h
    by_cases q : p < 4
    · rw [if_pos q] at h; exact h
    · rw [if_neg q] at h; exact absurd h.symm n
  | side p =>
    unfold ownSpot at h
    dsimp only at h
    by_cases q : p < 4
    · rw [if_pos q] at h; exact h
    · rw [if_neg q] at h; exact absurd h.symm n
theorem own_count {s : Spot} (n : s ≠ .out) : ∀ l : Stand, (l.map ownSpot).count s ≤ l.count s
  | [] => Nat.le_refl _
  | x :: l => by
    have ih := own_count n l
    rw [List.map_cons, List.count_cons, List.count_cons]
    by_cases q : ownSpot x = s
    · rw [if_pos (by simp [q]), if_pos (by simp [ownSpot_eq q n])]
      omega
    · rw [if_neg (by simp [q])]
      omega
theorem ok_own {ln : List Int} {wy : List Bool} {S : Stand} {n : Nat} (ok : OkStand ln wy S) (hn : 1 ≤ n) : OkStand (ln.take 4) (wy.take n) ((S.take n).map ownSpot) where
  lane := ⟨by have := ok.lane.one; rw [List.length_take]; omega, by have := ok.lane.most; rw [List.length_take]; omega, fun x hx => ok.lane.held x (List.mem_of_mem_take hx)⟩
  one := by have := ok.one; rw [List.length_take]; omega
  most := by have := ok.most; rw [List.length_take]; omega
  len := by have := ok.len; rw [List.length_map, List.length_take, List.length_take, this]
  spot := fun s hs => by
    obtain ⟨x, hx, rfl⟩ := List.mem_map.mp hs
    have h := ok.spot x (List.mem_of_mem_take hx)
    cases x with
    | out => trivial
    | lane p =>
      unfold ownSpot
      dsimp only
      by_cases q : p < 4
      · rw [if_pos q]; show p < (ln.take 4).length; have : p < ln.length := h; rw [List.length_take]; omega
      · rw [if_neg q]; trivial
    | side p =>
      unfold ownSpot
      dsimp only
      by_cases q : p < 4
      · rw [if_pos q]; show p < (ln.take 4).length; have : p < ln.length := h; rw [List.length_take]; omega
      · rw [if_neg q]; trivial
  room := fun s hs => by
    by_cases n0 : s = .out
    · subst n0
      show (_ : Int) ≤ 6
      have h1 : ((S.take n).map ownSpot).count .out ≤ ((S.take n).map ownSpot).length := List.count_le_length
      rw [List.length_map, List.length_take] at h1
      have := ok.len
      have := ok.most
      omega
    obtain ⟨x, hx, e⟩ := List.mem_map.mp hs
    have ex := ownSpot_eq e n0
    subst ex
    have h1 := own_count n0 (S.take n)
    have h2 : (S.take n).count x ≤ S.count x := (List.take_sublist n S).count_le x
    have h3 := ok.room x (List.mem_of_mem_take hx)
    have h4 : mostAt (ln.take 4) x = mostAt ln x := by
      cases x with
      | out => rfl
      | lane p => rfl
      | side p =>
        have q : p < 4 := by
          rcases Nat.lt_or_ge p 4 with h | h
          · exact h
          · unfold ownSpot at e
            dsimp only at e
            rw [if_neg (by omega)] at e
            cases e
        show (ln.take 4).getD p 0 = ln.getD p 0
        rw [List.getD_eq_getElem?_getD, List.getD_eq_getElem?_getD, List.getElem?_take, if_pos q]
    rw [h4]
    omega
theorem few_own {ln : List Int} {wy : List Bool} {S : Stand} {n : Nat} (ok : OkStand ln wy S) (h : (n = 2) ∨ (n = 3 ∧ (ln.take 4).length < 3)) : Few (ln.take 4) ((S.take n).map ownSpot) := by
  unfold Few Sl.room
  have h4 : (ln.take 4).length ≤ 4 := by rw [List.length_take]; omega
  have hl : ((S.take n).map ownSpot).length ≤ n := by rw [List.length_map, List.length_take]; omega
  have mono : ∀ b m k : Nat, 1 ≤ b → m ≤ k → b ^ m ≤ b ^ k := fun b m k hb hk => Nat.pow_le_pow_right hb hk
  rcases h with rfl | ⟨rfl, h3⟩
  · refine Nat.le_trans (mono _ _ 2 (by omega) hl) ?_
    refine Nat.le_trans (Nat.pow_le_pow_left (by omega : 2 * (ln.take 4).length + 1 ≤ 9) 2) (by decide)
  · refine Nat.le_trans (mono _ _ 3 (by omega) hl) ?_
    refine Nat.le_trans (Nat.pow_le_pow_left (by omega : 2 * (ln.take 4).length + 1 ≤ 5) 3) (by decide)
theorem cut_ints (ns : List Int) (lo hi : Option Int) : ∃ ms : List Int, cutV (ns.map V.int) lo hi = ms.map V.int := by
  unfold cutV
  exact ⟨(ns.drop _).take _, by rw [List.map_take, List.map_drop]⟩
theorem cut_ten {xs : List V} : (cutV xs (some (20 : Int)) (some (30 : Int))).length ≤ 10 := by
  unfold cutV
  rw [show HT.sIx xs.length xs.length (some (30 : Int)) = min 30 xs.length from HT.sIx_nat xs.length xs.length 30, show HT.sIx xs.length 0 (some (20 : Int)) = min 20 xs.length from HT.sIx_nat xs.length 0 20]
  rw [List.length_take]
  omega
theorem cut_take {xs : List V} {k : Nat} : cutV xs none (some (k : Int)) = xs.take k := by
  unfold cutV
  rw [HT.sIx_none, show HT.sIx xs.length xs.length (some (k : Int)) = min k xs.length from HT.sIx_nat xs.length xs.length k]
  rw [List.drop_zero, Nat.sub_zero, List.take_eq_take_iff]
  omega
section
variable {P : Program} {w : World} {K : PySem.W.Frag} {mg : Str → Option Value} {base : Heap}
def spOwn (P : Program) (w : World) (K : PySem.W.Frag) : Sp := fun vs H Q _ => ∃ (a : Addr) (ns : List Int), vs = [.ref a] ∧ SqL K H a (ns.map V.int) ∧
  ∀ (H' : Hp) (o lo wo so kd : Addr) (ks : List Ent) (L : List Stand) (ln : List Int) (wy : List Bool) (S : Stand), Same H H' → (H o = none ∧ H lo = none ∧ H wo = none ∧ H kd = none) → (wo ≠ o ∧ wo ≠ lo ∧ kd ≠ o ∧ kd ≠ lo ∧ lo ≠ o) → OkStand ln wy S → Few ln S →
    (∀ Z : List Addr, wo ∉ Z → kd ∉ Z → OKv P w Z H' o lo ln wy S 0 .non wo so kd ks L) → Q (.ref o) H'
theorem ok_lOwn (T : Txt K mg) : DefOk P w K mg base 4 "_law_own" ["_law_script"] (spOwn P w K) := by
  have D_lBuilt : DefOk P w K mg base 3 "_law_built" ["_law_script"] (spBuilt K) := ok_built T
  have D_lKnown : DefOk P w K mg base 3 "_law_known" ["_law_lane", "_law_ways", "_law_stand"] (spLKnown P w K) := ok_lKnown T
  refine T.f_lOwn.ok sc_lOwn (fun vs H Q E h => by obtain ⟨a, ns, rfl, _⟩ := h; rfl) (fun f cdv A outer s H vs Q E hr h => ?_)
  obtain ⟨a, ns, rfl, hA, q⟩ := h
  refine ⟨_, (pss_cons (ps_asg (pe_def D_lBuilt (hr.mono (by omega)) (pa_cons (pv 0) pa_nil)) (pg_tup rfl (pgs_cons (pg_name (i := 1) sc_lOwn.nd rfl (.inl rfl)) (pgs_cons (pg_name (i := 2) sc_lOwn.nd rfl (.inl rfl)) (pgs_cons (pg_name (i := 3) sc_lOwn.nd rfl (.inl rfl)) pgs_nil)))))
      (pss_cons (ps_set (i := 1) sc_lOwn.nd rfl (.inl rfl) (pe_slice sl_list (pv 1) po_none (po_some pe_int)))
      (pss_cons (ps_set (i := 4) sc_lOwn.nd rfl (.inl rfl) (pe_op op_add pe_int (pe_callTy call_int1 (by rfl) T.b_int (by decide +kernel) (pa_cons (pe_cmpR op_lt (pe_callB call_len_seq (by rfl) T.b_len (by decide +kernel) (pa_cons (pv 1) pa_nil)) pe_int (nomark _)) pa_nil))))
      (pss_cons (ps_set (i := 5) sc_lOwn.nd rfl (.inl rfl) (pe_lst pa_nil))
      (pss_cons (ps_for PassesOwn.never rfl (pi_tupK (K := K) (pe_slice (r := rSlF K) sl_tupF (pv 3) po_none (po_some (pv 4)))) (pg_name (i := 6) sc_lOwn.nd rfl (.inl rfl)) (pss_cons (ps_set (i := 7) sc_lOwn.nd rfl (.inl rfl) (pe_or (pe_cmpR op_eq (pe_ix (r := rIxT K) ix_tup (pv 6) pe_int (fun _ _ => rfl)) pe_str (nomark _)) (pe_one (pe_cmpR op_lt (pe_ix (r := rIxT K) ix_tup (pv 6) pe_int (fun _ _ => rfl)) pe_int (nomark _)))))
      (pss_one (ps_expr (pe_bm PySem.F.plainAttrs_list PySem.F.slot_list_append PySem.F.type_list_append mt_append (pv 5) (pa_cons (pe_ifExp (pt_val (pv 7)) (pv 6) (pe_tupF (pa_cons pe_str pa_nil))) pa_nil))))))
      (pss_cons (ps_set (i := 8) sc_lOwn.nd rfl (.inl rfl) (pe_disp (pps_cons pe_str (pv 1) (pps_cons pe_str (pe_slice sl_list (pv 2) po_none (po_some (pv 4))) (pps_cons pe_str (pe_callTy call_tuple_ofF (by rfl) T.b_tuple (by decide +kernel) (pa_cons (pv 5) pa_nil)) (pps_cons pe_str pe_int (pps_cons pe_str pe_non pps_nil))))) (by rfl) (by rfl) (fun z => by cases z) (by decide)))
      (pss_cons (ps_dput (hu_of hr) (pv 8) pe_str (pe_def D_lKnown (hr.mono (by omega)) (pa_cons (pv 1) (pa_cons (pe_dget (hu_of hr) (pv 8) pe_str (fun _ _ => rfl)) (pa_cons (pe_dget (hu_of hr) (pv 8) pe_str (fun _ _ => rfl)) pa_nil)))) (by rfl))
      (pss_cons (ps_dput (hu_of hr) (pv 8) pe_str (pe_callB (call_lenN (P := P) (w := w)) (by rfl) T.b_len (by decide +kernel) (pa_cons (pe_dget (hu_of hr) (pv 8) pe_str (fun _ _ => rfl)) pa_nil)) (by rfl))
      (pss_one (ps_ret (pv 8))))))))))), ?_⟩
  refine ⟨.ref a, rfl, a, ns, rfl, hA, fun H1 p0 a1 b1 c0 ln wy S s1 tp f1 f2 e1 e2 nab hS ok sm => ⟨p0, _, rfl, tp.sq, rfl, _, _, rfl, _, _, rfl, _, _, rfl, rfl, ?_⟩⟩
  refine ⟨.ref a1, rfl, 4, rfl, a1, _, rfl, .inl (.inl e1), fun lo hlo => ?_⟩
  rw [show cutV (ln.map V.int) none (some (4 : Int)) = (ln.take 4).map V.int by rw [show (4 : Int) = ((4 : Nat) : Int) from rfl, cut_take, List.map_take]]
  have s2 := same_new (o := .lst ((ln.take 4).map V.int)) hlo
  have el : (upd H1 lo (.lst ((ln.take 4).map V.int))) lo = some (.lst ((ln.take 4).map V.int)) := upd_same
  generalize upd H1 lo (.lst ((ln.take 4).map V.int)) = H2 at s2 el
  refine ⟨.ref lo, rfl, lo, _, rfl, .inl (.inl (.inl el)), ?_⟩
  have lt4 : ((ln.take 4).map V.int).length = (ln.take 4).length := List.length_map ..
  obtain ⟨n, en, hn⟩ : ∃ n : Nat, (2 + (if decide (((((ln.take 4).map V.int).length : Nat) : Int) < 3) = true then (1 : Int) else 0)) = n ∧ (n = 2 ∨ (n = 3 ∧ (ln.take 4).length < 3)) := by
    rw [lt4]
    by_cases h3 : (ln.take 4).length < 3
    · exact ⟨3, by rw [if_pos (decide_eq_true (by omega))]; rfl, .inr ⟨rfl, h3⟩⟩
    · exact ⟨2, by rw [if_neg (by simp; simp at h3; omega)]; rfl, .inl rfl⟩
  refine ⟨_, _, rfl, rfl, .inr ⟨_, rfl, _, _, rfl, rfl, ?_⟩⟩
  rw [show (fun i j : Int => V.int (i + j)) 2 (if decide (((((ln.take 4).map V.int).length : Nat) : Int) < 3) = true then (1 : Int) else 0) = V.int (n : Nat) from congrArg V.int en]
  refine ⟨Nat.zero_le _, fun fd hfd => ?_⟩
  have s3 := same_new (o := .lst []) hfd
  have ef : (upd H2 fd (.lst [])) fd = some (.lst []) := upd_same
  have fH : H1 fd = none := s2.free hfd
  generalize upd H2 fd (.lst []) = H3 at s3 ef
  obtain ⟨us, eu, iu⟩ := id hS
  have s13 := s2.trans s3
  have t13 := Ti.of s13
  refine ⟨.ref c0, rfl, .int (n : Nat), rfl, n, rfl, slF (t13 _ _ eu) fun H4 p4 s4 t4 => ?_⟩
  rw [cut_take] at t4
  have ef4 := s4 _ _ ef
  refine ⟨p4, rfl, ⟨_, t4.sq⟩, ?_⟩
  have lus : us.length = S.length := by rw [iu.length, List.length_map]
  refine for_it (walk_tup (K := K) (a := p4) (xs := us.take n)) (fun i σ G => Same H2 G ∧ TupAt G p4 (us.take n) ∧ (∃ xs, G fd = some (.lst xs) ∧ ImAll G xs ((((S.take n).take i).map ownSpot).map dS)) ∧ ∃ y6 y7, σ = [some (.ref a), some (.ref lo), some (.ref b1), some (.ref c0), some (.int (n : Nat)), some (.ref fd), y6, y7, none])
    ⟨s3.trans s4, t4, ⟨[], ef4, by simp; exact .nil⟩, none, none, rfl⟩ (fun i σ G _ z => z.2.1.sq) (fun i x σ G G' hi z y => ?_) (fun σ G z => ?_)
  · obtain ⟨sG, tG, ⟨xs, exs, ixs⟩, y6, y7, rfl⟩ := z
    obtain ⟨rfl, ex⟩ := y
    have hin : i < n := by rw [List.length_take] at hi; omega
    rw [List.getElem?_take, if_pos hin] at ex
    obtain ⟨pj, sj, rfl, esj, hsj⟩ := stand_getV iu ex
    have esj' : (S.take n)[i]? = some sj := by rw [List.getElem?_take, if_pos hin]; exact esj
    have hs1 := Ti.of (s2.trans sG) _ _ hsj
    have lx : xs.length ≤ 8 := by
      have h1 := ixs.length
      rw [List.length_map, List.length_map, List.length_take, List.length_take] at h1
      have := ok.len
      have := ok.most
      omega
    have z8 : xs.length < sizeLine := Nat.lt_of_le_of_lt lx (by decide)
    have good : ownSpot sj = sj → Same H2 (upd G' fd (.lst (xs ++ [.ref pj]))) ∧ TupAt (upd G' fd (.lst (xs ++ [.ref pj]))) p4 (us.take n) ∧ ∃ zs, (upd G' fd (.lst (xs ++ [.ref pj]))) fd = some (.lst zs) ∧ ImAll (upd G' fd (.lst (xs ++ [.ref pj]))) zs ((((S.take n).take (i + 1)).map ownSpot).map dS) := fun e => by
      have tl := Ti.lst (o := .lst (xs ++ [.ref pj])) exs
      refine ⟨same_mut sG hfd, tl _ _ tG, _, upd_same, ?_⟩
      rw [take_snoc esj', List.map_append, List.map_append]
      refine (ixs.mono tl).append (.cons ?_ .nil)
      show Im _ _ (dS (ownSpot sj))
      rw [e]
      exact SpotAt.im (tl _ _ hs1)
    have bad : ownSpot sj = .out → ∀ G5 m5, Same G' G5 → TupAt G5 m5 [.str "out"] → Same H2 (upd G5 fd (.lst (xs ++ [.ref m5]))) ∧ TupAt (upd G5 fd (.lst (xs ++ [.ref m5]))) p4 (us.take n) ∧ ∃ zs, (upd G5 fd (.lst (xs ++ [.ref m5]))) fd = some (.lst zs) ∧ ImAll (upd G5 fd (.lst (xs ++ [.ref m5]))) zs ((((S.take n).take (i + 1)).map ownSpot).map dS) := fun e G5 m5 s5 t5 => by
      have tl := Ti.lst (o := .lst (xs ++ [.ref m5])) (s5 _ _ exs)
      refine ⟨same_mut (sG.trans s5) hfd, tl _ _ (Ti.of s5 _ _ tG), _, upd_same, ?_⟩
      rw [take_snoc esj', List.map_append, List.map_append]
      refine (ixs.mono ((Ti.of s5).trans tl)).append (.cons ?_ .nil)
      show Im _ _ (dS (ownSpot sj))
      rw [e]
      exact SpotAt.im (s := .out) (tl _ _ t5)
    cases sj with
    | out =>
      refine ⟨.ref pj, rfl, pj, _, 0, _, rfl, rfl, hs1.sq, at0, rfl, _, rfl, iteT' (decide_eq_true rfl) ?_⟩
      obtain ⟨r1, r2, r3⟩ := good rfl
      exact ⟨.ref fd, rfl, .inl ⟨rfl, _, .inl (.inl exs)⟩, .bl true, rfl, true, rfl, iteT' rfl ⟨.ref pj, rfl, fd, xs, .ref pj, rfl, rfl, exs, z8, r1, r2, r3, _, _, rfl⟩⟩
    | lane pp =>
      have hs1 : TupAt G' pj [.str "lane", .int (pp : Nat)] := hs1
      refine ⟨.ref pj, rfl, pj, _, 0, _, rfl, rfl, hs1.sq, at0, rfl, _, rfl, iteF' (decide_eq_false (by decide)) ⟨.ref pj, rfl, pj, _, 1, _, rfl, rfl, hs1.sq, at1, _, _, rfl, rfl, ?_⟩⟩
      by_cases h4 : pp < 4
      · rw [show (fun i j : Int => V.bl (decide (i < j))) (pp : Nat) 4 = V.bl true from congrArg V.bl (decide_eq_true (by omega : ((pp : Nat) : Int) < 4))]
        obtain ⟨r1, r2, r3⟩ := good (if_pos h4)
        exact ⟨.ref fd, rfl, .inl ⟨rfl, _, .inl (.inl exs)⟩, .bl true, rfl, true, rfl, iteT' rfl ⟨.ref pj, rfl, fd, xs, .ref pj, rfl, rfl, exs, z8, r1, r2, r3, _, _, rfl⟩⟩
      · rw [show (fun i j : Int => V.bl (decide (i < j))) (pp : Nat) 4 = V.bl false from congrArg V.bl (decide_eq_false (by omega : ¬ ((pp : Nat) : Int) < 4))]
        refine ⟨.ref fd, rfl, .inl ⟨rfl, _, .inl (.inl exs)⟩, .bl false, rfl, false, rfl, iteF' rfl ⟨one_size, nT_q fun G5 m5 s5 t5 => ?_⟩⟩
        obtain ⟨r1, r2, r3⟩ := bad (if_neg h4) G5 m5 s5 t5
        exact ⟨fd, xs, .ref m5, rfl, rfl, s5 _ _ exs, z8, r1, r2, r3, _, _, rfl⟩
    | side pp =>
      have hs1 : TupAt G' pj [.str "side", .int (pp : Nat)] := hs1
      refine ⟨.ref pj, rfl, pj, _, 0, _, rfl, rfl, hs1.sq, at0, rfl, _, rfl, iteF' (decide_eq_false (by decide)) ⟨.ref pj, rfl, pj, _, 1, _, rfl, rfl, hs1.sq, at1, _, _, rfl, rfl, ?_⟩⟩
      by_cases h4 : pp < 4
      · rw [show (fun i j : Int => V.bl (decide (i < j))) (pp : Nat) 4 = V.bl true from congrArg V.bl (decide_eq_true (by omega : ((pp : Nat) : Int) < 4))]
        obtain ⟨r1, r2, r3⟩ := good (if_pos h4)
        exact ⟨.ref fd, rfl, .inl ⟨rfl, _, .inl (.inl exs)⟩, .bl true, rfl, true, rfl, iteT' rfl ⟨.ref pj, rfl, fd, xs, .ref pj, rfl, rfl, exs, z8, r1, r2, r3, _, _, rfl⟩⟩
      · rw [show (fun i j : Int => V.bl (decide (i < j))) (pp : Nat) 4 = V.bl false from congrArg V.bl (decide_eq_false (by omega : ¬ ((pp : Nat) : Int) < 4))]
        refine ⟨.ref fd, rfl, .inl ⟨rfl, _, .inl (.inl exs)⟩, .bl false, rfl, false, rfl, iteF' rfl ⟨one_size, nT_q fun G5 m5 s5 t5 => ?_⟩⟩
        obtain ⟨r1, r2, r3⟩ := bad (if_neg h4) G5 m5 s5 t5
        exact ⟨fd, xs, .ref m5, rfl, rfl, s5 _ _ exs, z8, r1, r2, r3, _, _, rfl⟩
  · obtain ⟨sG, tG, ⟨xs, exs, ixs⟩, y6, y7, rfl⟩ := z
    have sG1 := s2.trans sG
    have fo : H2 fd = none := hfd
    refine fun od hod => ?_
    have u1 := same_new (o := .dK []) hod
    have eod : (upd G od (.dK [])) od = some (.dK []) := upd_same
    have fod : H1 od = none := sG1.free hod
    generalize upd G od (.dK []) = A1 at u1 eod
    refine ⟨.ref lo, rfl, .ref b1, rfl, .int (n : Nat), rfl, n, rfl, b1, _, rfl, .inl (.inl (u1 _ _ (sG1 _ _ e2))), fun wo hwo => ?_⟩
    rw [cut_take, ← List.map_take]
    have u2 := same_new (o := .lst ((wy.take n).map fun b => V.str (wS b))) hwo
    have ewo : (upd A1 wo (.lst ((wy.take n).map fun b => V.str (wS b)))) wo = some (.lst ((wy.take n).map fun b => V.str (wS b))) := upd_same
    have fwo : H1 wo = none := (sG1.trans u1).free hwo
    have nwo : wo ≠ od := fun z => by rw [z, eod] at hwo; cases hwo
    have nwl : wo ≠ lo := fun z => by rw [z, u1 _ _ (sG _ _ el)] at hwo; cases hwo
    generalize upd A1 wo (.lst ((wy.take n).map fun b => V.str (wS b))) = A2 at u2 ewo
    refine ⟨.ref fd, rfl, fd, xs, rfl, .inl (.inl (u2 _ _ (u1 _ _ exs))), nT_q fun A3 so u3 t3 => ?_⟩
    have u13 := u1.trans (u2.trans u3)
    have eod3 := u3 _ _ (u2 _ _ eod)
    refine ⟨eod3, [(.inr "lane", .ref lo), (.inr "ways", .ref wo), (.inr "stand", .ref so), (.inr "gained", .int 0), (.inr "refused", .non)], rfl, (by show 5 ≤ 15; decide), ?_⟩
    have uA : Same G (upd A3 od (.dK [(.inr "lane", .ref lo), (.inr "ways", .ref wo), (.inr "stand", .ref so), (.inr "gained", .int 0), (.inr "refused", .non)])) := same_mut u13 hod
    have tA : Ti A3 (upd A3 od (.dK [(.inr "lane", .ref lo), (.inr "ways", .ref wo), (.inr "stand", .ref so), (.inr "gained", .int 0), (.inr "refused", .non)])) := Ti.odict eod3
    have eA : (upd A3 od (.dK [(.inr "lane", .ref lo), (.inr "ways", .ref wo), (.inr "stand", .ref so), (.inr "gained", .int 0), (.inr "refused", .non)])) od = some (.dK [(.inr "lane", .ref lo), (.inr "ways", .ref wo), (.inr "stand", .ref so), (.inr "gained", .int 0), (.inr "refused", .non)]) := upd_same
    have ewA : (upd A3 od (.dK [(.inr "lane", .ref lo), (.inr "ways", .ref wo), (.inr "stand", .ref so), (.inr "gained", .int 0), (.inr "refused", .non)])) wo = some (.lst ((wy.take n).map fun b => V.str (wS b))) := by rw [upd_ne nwo]; exact u3 _ _ ewo
    dsimp only
    rw [show mergeK ([] : List (Key × V)) [(.inr "lane", .ref lo), (.inr "ways", .ref wo), (.inr "stand", .ref so), (.inr "gained", .int 0), (.inr "refused", .non)] = [(.inr "lane", .ref lo), (.inr "ways", .ref wo), (.inr "stand", .ref so), (.inr "gained", .int 0), (.inr "refused", .non)] from rfl]
    generalize upd A3 od (.dK [(.inr "lane", .ref lo), (.inr "ways", .ref wo), (.inr "stand", .ref so), (.inr "gained", .int 0), (.inr "refused", .non)]) = B at uA tA eA ewA
    have sB := sG.trans uA
    have hL : LaneAt K B lo (ln.take 4) := .inl (.inl (sB _ _ el))
    have hW : WaysAt K B wo (wy.take n) := .inl (.inl ewA)
    have zx : xs.length ≤ 8 := by
      have h1 := ixs.length
      rw [List.length_map, List.length_map, List.length_take, List.length_take] at h1
      have := ok.len
      have := ok.most
      omega
    have hSB : StandAt B so ((S.take n).map ownSpot) := by
      refine ⟨xs, tA _ _ t3, ?_⟩
      have h := ixs.mono ((Ti.of u13).trans tA)
      rw [List.take_of_length_le (by rw [List.length_take, List.length_take, lus]; omega)] at h
      exact h
    have ok2 := ok_own ok (n := n) (by omega)
    have few2 := few_own ok hn
    generalize ln.take 4 = ln' at *
    generalize wy.take n = wy' at *
    generalize (S.take n).map ownSpot = S' at *
    refine ⟨.ref lo, rfl, .ref od, rfl, od, .ref wo, rfl, dgV eA rfl, .ref od, rfl, od, .ref so, rfl, dgV eA rfl, lo, wo, so, ln', wy', S', rfl, hL, hW, hSB, ok2, few2, fun C kd ks L v1 hkd kn => ?_⟩
    have eC := v1 _ _ eA
    refine ⟨.ref od, rfl, od, _, rfl, .k (k := .inr "known") eC (by show 5 < sizeLine; decide), ?_⟩
    dsimp only
    rw [show putK ([(.inr "lane", .ref lo), (.inr "ways", .ref wo), (.inr "stand", .ref so), (.inr "gained", .int 0), (.inr "refused", .non)] : List (Key × V)) (.inr "known") (.ref kd) = [(.inr "lane", .ref lo), (.inr "ways", .ref wo), (.inr "stand", .ref so), (.inr "gained", .int 0), (.inr "refused", .non), (.inr "known", .ref kd)] from rfl]
    have k1 : Keep [od] C (upd C od (.dK [(.inr "lane", .ref lo), (.inr "ways", .ref wo), (.inr "stand", .ref so), (.inr "gained", .int 0), (.inr "refused", .non), (.inr "known", .ref kd)])) := Keep.refl.upd (List.mem_singleton.mpr rfl)
    have t1 : Ti C (upd C od (.dK [(.inr "lane", .ref lo), (.inr "ways", .ref wo), (.inr "stand", .ref so), (.inr "gained", .int 0), (.inr "refused", .non), (.inr "known", .ref kd)])) := Ti.odict eC
    have e6 : (upd C od (.dK [(.inr "lane", .ref lo), (.inr "ways", .ref wo), (.inr "stand", .ref so), (.inr "gained", .int 0), (.inr "refused", .non), (.inr "known", .ref kd)])) od = some (.dK [(.inr "lane", .ref lo), (.inr "ways", .ref wo), (.inr "stand", .ref so), (.inr "gained", .int 0), (.inr "refused", .non), (.inr "known", .ref kd)]) := upd_same
    generalize upd C od (.dK [(.inr "lane", .ref lo), (.inr "ways", .ref wo), (.inr "stand", .ref so), (.inr "gained", .int 0), (.inr "refused", .non), (.inr "known", .ref kd)]) = D at k1 t1 e6
    have nkd : kd ≠ od := fun z => by rw [z, eA] at hkd; cases hkd
    have nk1 : kd ∉ [od] := by simpa using nkd
    have kn1 := kn.keep k1 t1 nk1
    refine ⟨.ref od, rfl, od, .ref kd, rfl, dgV e6 rfl, kd, ks, rfl, kn1.dn.rd, .ref od, rfl, od, _, rfl, .k (k := .inr "many") e6 (by show 6 < sizeLine; decide), .ref od, rfl, ?_⟩
    rw [show putK ([(.inr "lane", .ref lo), (.inr "ways", .ref wo), (.inr "stand", .ref so), (.inr "gained", .int 0), (.inr "refused", .non), (.inr "known", .ref kd)] : List (Key × V)) (.inr "many") (.int (ks.length : Nat)) = okv (.ref lo) (.ref wo) (.ref so) (.int 0) .non (.ref kd) (.int (ks.length : Nat)) from rfl]
    have k2 : Keep [od] D (upd D od (.dK (okv (.ref lo) (.ref wo) (.ref so) (.int 0) .non (.ref kd) (.int (ks.length : Nat))))) := Keep.refl.upd (List.mem_singleton.mpr rfl)
    have t2 : Ti D (upd D od (.dK (okv (.ref lo) (.ref wo) (.ref so) (.int 0) .non (.ref kd) (.int (ks.length : Nat))))) := Ti.odict e6
    have e7 : (upd D od (.dK (okv (.ref lo) (.ref wo) (.ref so) (.int 0) .non (.ref kd) (.int (ks.length : Nat))))) od = some (.dK (okv (.ref lo) (.ref wo) (.ref so) (.int 0) .non (.ref kd) (.int (ks.length : Nat)))) := upd_same
    generalize upd D od (.dK (okv (.ref lo) (.ref wo) (.ref so) (.int 0) .non (.ref kd) (.int (ks.length : Nat)))) = F at k2 t2 e7
    have k12 := k1.trans k2
    have t12 := t1.trans t2
    have sBC := sB.trans v1
    have hodH : H od = none := s1.free fod
    have nlo : lo ≠ od := fun z => by have h := sB _ _ el; rw [z, eA] at h; cases h
    have nkl : kd ≠ lo := fun z => by have h := sB _ _ el; rw [← z, hkd] at h; cases h
    have s1B : Same H1 C := s2.trans sBC
    have sF : Same H F := fun x u e => k12.1 _ _ ((s1.trans s1B) _ _ e) (by simp; intro z; rw [z, hodH] at e; cases e)
    have hkd1 : H1 kd = none := (s2.trans sB).free hkd
    refine q F od lo wo so kd ks L ln' wy' S' sF ⟨hodH, s1.free hlo, s1.free fwo, s1.free hkd1⟩ ⟨nwo, nwl, nkd, nkl, nlo⟩ ok2 few2 fun Z zw zk => ?_
    rw [kn.of.len] at e7
    exact ⟨e7, Nat.le_refl 7, rfl, rfl, rfl, rfl, rfl, rfl, rfl, k12.1 _ _ (sBC _ _ el) (by simpa using nlo), k12.1 _ _ (v1 _ _ ewA) (by simpa using nwo), zw, hSB.mono ((Ti.of v1).trans t12), kn1.keep k2 t2 nk1, zk, .non⟩
end
end Slx

set_option Elab.async false
set_option linter.all false
set_option maxRecDepth 100000
set_option maxHeartbeats 4000000
namespace Slx
open PySem PySem.Spec PyProof.Rows L2 Sl
section
variable {P : Program} {w : World} {K : PySem.W.Frag} {mg : Str → Option Value} {base : Heap}
theorem ne_none {H : Hp} {p q : Addr} {o : HO} (h : H p = some o) (n : H q = none) : p ≠ q := fun z => by rw [z, n] at h; cases h
def spYInit (K : PySem.W.Frag) (CY : Addr) : Sp := fun vs H Q _ => ∃ (p dx a b c : Addr) (ln : List Int) (wy : List Bool) (S : Stand), vs = [.ref p, .ref a, .ref b, .ref c] ∧ H p = some (.ins CY dx []) ∧ (H a = some (.lst (ln.map V.int)) ∧ H b = some (.lst (wy.map fun b => V.str (wS b)))) ∧ StandAt H c S ∧ OkStand ln wy S ∧
  ∀ (H' : Hp) (l1 l2 : Addr), Keep [p] H H' → Ti H H' → H l1 = none → H l2 = none → l1 ≠ l2 → H' p = some (.ins CY dx (yf (.ref l1) (.ref l2) (.ref c) .non)) → H' l1 = some (.lst (ln.map V.int)) → H' l2 = some (.lst (wy.map fun b => V.str (wS b))) → Q .non H'
theorem Ti.ins {H : Hp} {p : Addr} {C d : Addr} {fs : List (Str × V)} {o : HO} (h : H p = some (.ins C d fs)) : Ti H (upd H p o) := fun x zs ⟨u, e1, e2⟩ => ⟨u, by rw [upd_ne (fun z => by rw [z, h] at e1; cases e1)]; exact e1, e2⟩
theorem ok_yInit (T : Txt K mg) {CY : Addr} (Y : Yrd K mg CY) {f : Addr} {fd : FuncData} (F : Fun K "__init__" "Yard.__init__" s_yInit f fd) : FnOk P w K mg base CX0 5 f fd ["self", "lane", "ways", "stand"] (spYInit K CY) := by
  have D_needStand : DefOk P w K mg base 4 "need_stand" ["lane", "ways", "stand"] (spNeedStand K) := ok_needStand T
  refine F.ok sc_yInit (fun vs H Q E h => by obtain ⟨p, dx, a, b, c, ln, wy, S, rfl, _⟩ := h; rfl) (fun cdv A outer s H vs Q XE hr h => ?_)
  obtain ⟨p, dx, a, b, c, ln, wy, S, rfl, hp, ⟨ha, hb⟩, hS, ok, q⟩ := h
  refine ⟨_, (pss_cons (ps_expr (pe_def D_needStand (hr.mono (by omega)) (pa_cons (pv 1) (pa_cons (pv 2) (pa_cons (pv 3) pa_nil)))))
      (pss_cons (ps_fld (pv 0) (pe_callTy call_list_of (by rfl) T.b_list (by decide +kernel) (pa_cons (pv 1) pa_nil)) rfl)
      (pss_cons (ps_fld (pv 0) (pe_callTy call_list_of (by rfl) T.b_list (by decide +kernel) (pa_cons (pv 2) pa_nil)) rfl)
      (pss_cons (ps_fld (pv 0) (pv 3) rfl)
      (pss_one (ps_fld (pv 0) pe_non rfl)))))), ?_⟩
  refine ⟨.ref a, rfl, .ref b, rfl, .ref c, rfl, a, b, c, ln, wy, S, rfl, .inl (.inl ha), .inl (.inl hb), hS, ok, fun H1 s1 => ?_⟩
  have hp1 := s1 _ _ hp
  refine ⟨.ref a, rfl, a, _, rfl, .inl (.inl (.inl (s1 _ _ ha))), fun l1 hl1 => ?_⟩
  have z1 := same_new (o := .lst (ln.map V.int)) hl1
  have el1 : (upd H1 l1 (.lst (ln.map V.int))) l1 = some (.lst (ln.map V.int)) := upd_same
  have n1 : p ≠ l1 := ne_none hp1 hl1
  generalize upd H1 l1 (.lst (ln.map V.int)) = H2 at z1 el1
  have hp2 := z1 _ _ hp1
  refine ⟨.ref p, rfl, p, CY, dx, _, rfl, hp2, Y.cl, Y.n_lane, (by show 0 < 1000; decide), ?_⟩
  have k3 : Keep [p] H (upd H2 p (.ins CY dx (putF "_lane" (.ref l1) []))) := (Keep.of (s1.trans z1)).upd (List.mem_singleton.mpr rfl)
  have t3 : Ti H (upd H2 p (.ins CY dx (putF "_lane" (.ref l1) []))) := (Ti.of (s1.trans z1)).trans (Ti.ins hp2)
  have hp3 : (upd H2 p (.ins CY dx (putF "_lane" (.ref l1) []))) p = some (.ins CY dx (putF "_lane" (.ref l1) [])) := upd_same
  have el3 : (upd H2 p (.ins CY dx (putF "_lane" (.ref l1) []))) l1 = some (.lst (ln.map V.int)) := by rw [upd_ne n1.symm]; exact el1
  generalize upd H2 p (.ins CY dx (putF "_lane" (.ref l1) [])) = H3 at k3 t3 hp3 el3
  have npb : p ≠ b := fun z => by rw [z, hb] at hp; cases hp
  have f1 : H l1 = none := s1.free hl1
  refine ⟨.ref b, rfl, b, _, rfl, .inl (.inl (.inl (k3.1 _ _ hb (by simpa using npb.symm)))), fun l2 hl2 => ?_⟩
  have z2 := same_new (o := .lst (wy.map fun b => V.str (wS b))) hl2
  have el2 : (upd H3 l2 (.lst (wy.map fun b => V.str (wS b)))) l2 = some (.lst (wy.map fun b => V.str (wS b))) := upd_same
  have n2 : p ≠ l2 := ne_none hp3 hl2
  have n12 : l1 ≠ l2 := ne_none el3 hl2
  have f2 : H l2 = none := by
    cases e : H l2 with
    | none => rfl
    | some o => exact absurd hl2 (k3.2 l2 (by rw [e]; exact fun z => nomatch z))
  generalize upd H3 l2 (.lst (wy.map fun b => V.str (wS b))) = H4 at z2 el2
  have hp4 := z2 _ _ hp3
  refine ⟨.ref p, rfl, p, CY, dx, _, rfl, hp4, Y.cl, Y.n_ways, (by show 1 < 1000; decide), ?_⟩
  refine ⟨.ref c, rfl, .ref p, rfl, p, CY, dx, _, rfl, upd_same, Y.cl, Y.n_stand, (by show 2 < 1000; decide), ?_⟩
  refine ⟨.ref p, rfl, p, CY, dx, _, rfl, upd_same, Y.cl, Y.n_shorter, (by show 3 < 1000; decide), ?_⟩
  rw [yf_made, upd_upd, upd_upd]
  refine q _ l1 l2 ((k3.trans (Keep.of z2)).upd (List.mem_singleton.mpr rfl)) ((t3.trans (Ti.of z2)).trans (Ti.ins hp4)) f1 f2 n12 upd_same ?_ ?_
  · rw [upd_ne n1.symm]; exact z2 _ _ el3
  · rw [upd_ne n2.symm]; exact el2
end
end Slx

set_option Elab.async false
set_option linter.all false
set_option maxRecDepth 100000
set_option maxHeartbeats 4000000
namespace Slx
open PySem PySem.Spec PyProof.Rows L2 Sl
/-- what may be written of one side -/
structure Sd where
  p : Addr
  l1 : Addr
  o : Addr
  lo : Addr
def Sd.as (d : Sd) : List Addr := [d.p, d.l1, d.o, d.lo]
structure Fix (Z : List Addr) (d0 d1 : Sd) (hl : Addr) : Prop where
  i0 : ∀ a ∈ d0.as, a ∈ Z
  i1 : ∀ a ∈ d1.as, a ∈ Z
  ih : hl ∈ Z
  far : ∀ a ∈ d0.as, a ∉ d1.as
  h0 : hl ∉ d0.as
  h1 : hl ∉ d1.as
  l0 : d0.l1 ≠ d0.lo
  l1 : d1.l1 ≠ d1.lo
theorem Fix.swap {Z : List Addr} {d0 d1 : Sd} {hl : Addr} (f : Fix Z d0 d1 hl) : Fix Z d1 d0 hl := ⟨f.i1, f.i0, f.ih, fun a h1 h0 => f.far a h0 h1, f.h1, f.h0, f.l1, f.l0⟩
section
variable {P : Program} {w : World} {K : PySem.W.Frag} {mg : Str → Option Value} {base : Heap}
abbrev SideX (P : Program) (w : World) (CY : Addr) (Z : List Addr) (H : Hp) (d : Sd) : Prop := ∃ ln wy S, SideAt P w CY Z H d.p d.l1 d.o d.lo ln wy S
structure Wd (P : Program) (w : World) (CY : Addr) (Z : List Addr) (H : Hp) (d0 d1 : Sd) (hl : Addr) (m : Nat) : Prop where
  s0 : SideX P w CY Z H d0
  s1 : SideX P w CY Z H d1
  held : HeldAt Z H hl m
  all : ∀ a ∈ Z, H a ≠ none
variable {CY : Addr} {Z : List Addr} {H H' : Hp} {d0 d1 : Sd} {hl : Addr} {m n : Nat}
theorem Wd.swap (h : Wd P w CY Z H d0 d1 hl m) : Wd P w CY Z H d1 d0 hl m := ⟨h.s1, h.s0, h.held, h.all⟩
theorem Wd.up (h : Wd P w CY Z H d0 d1 hl m) (l : m ≤ n) : Wd P w CY Z H d0 d1 hl n := ⟨h.s0, h.s1, h.held.up l, h.all⟩
theorem SideX.keep {M : List Addr} {d : Sd} (k : Keep M H H') (t : Ti H H') (z : ∀ a ∈ M, a ∈ Z) (n : ∀ a ∈ d.as, a ∉ M) (h : SideX P w CY Z H d) : SideX P w CY Z H' d := by
  obtain ⟨ln, wy, S, s⟩ := h
  exact ⟨ln, wy, S, s.keep k t z ⟨n _ (by simp [Sd.as]), n _ (by simp [Sd.as]), n _ (by simp [Sd.as]), n _ (by simp [Sd.as])⟩⟩
theorem Wd.deed (f : Fix Z d0 d1 hl) (h : Wd P w CY Z H d0 d1 hl m) (k : Keep d0.as H H') (t : Ti H H') (s : SideX P w CY Z H' d0) : Wd P w CY Z H' d0 d1 hl m :=
  ⟨s, h.s1.keep k t f.i0 (fun a h1 h0 => f.far a h0 h1), h.held.keep k t f.i0 f.h0, fun a ha => k.2 a (h.all a ha)⟩
theorem Wd.look (f : Fix Z d0 d1 hl) (h : Wd P w CY Z H d0 d1 hl m) (k : Keep [hl] H H') (t : Ti H H') (s : HeldAt Z H' hl n) : Wd P w CY Z H' d0 d1 hl n := by
  have z : ∀ a ∈ [hl], a ∈ Z := fun a ha => by rw [List.mem_singleton.mp ha]; exact f.ih
  exact ⟨h.s0.keep k t z (fun a ha hb => f.h0 (by rw [← List.mem_singleton.mp hb]; exact ha)), h.s1.keep k t z (fun a ha hb => f.h1 (by rw [← List.mem_singleton.mp hb]; exact ha)), s, fun a ha => k.2 a (h.all a ha)⟩
theorem Wd.same (h : Wd P w CY Z H d0 d1 hl m) (s : Same H H') : Wd P w CY Z H' d0 d1 hl m :=
  ⟨h.s0.keep (Keep.of (Z := []) s) (Ti.of s) (fun _ h => nomatch h) (fun _ _ h => nomatch h), h.s1.keep (Keep.of (Z := []) s) (Ti.of s) (fun _ h => nomatch h) (fun _ _ h => nomatch h), h.held.keep (Keep.of (Z := []) s) (Ti.of s) (fun _ h => nomatch h) (fun h => nomatch h), fun a ha => (Keep.of (Z := []) s).2 a (h.all a ha)⟩
theorem Wd.ap (f : Fix Z d0 d1 hl) (h : Wd P w CY Z H d0 d1 hl m) : Apart Z H d0.p d0.l1 d0.o d0.lo :=
  ⟨h.all, f.i0 _ (by simp [Sd.as]), f.i0 _ (by simp [Sd.as]), f.i0 _ (by simp [Sd.as]), f.i0 _ (by simp [Sd.as]), f.l0⟩
theorem Fix.nhl (f : Fix Z d0 d1 hl) : d0.p ≠ hl ∧ d0.l1 ≠ hl ∧ d0.o ≠ hl ∧ d0.lo ≠ hl :=
  ⟨fun e => f.h0 (by rw [← e]; simp [Sd.as]), fun e => f.h0 (by rw [← e]; simp [Sd.as]), fun e => f.h0 (by rw [← e]; simp [Sd.as]), fun e => f.h0 (by rw [← e]; simp [Sd.as])⟩
/-- one of the two sides -/
theorem one_side (f : Fix Z d0 d1 hl) {k : Nat} (hk : k < 2) : ∃ d d', Fix Z d d' hl ∧ (∀ (H : Hp) (m : Nat), Wd P w CY Z H d0 d1 hl m ↔ Wd P w CY Z H d d' hl m) ∧ atI [V.ref d0.p, .ref d1.p] (k : Nat) = some (.ref d.p) ∧ atI [V.ref d0.o, .ref d1.o] (k : Nat) = some (.ref d.o) := by
  rcases (by omega : k = 0 ∨ k = 1) with rfl | rfl
  · exact ⟨d0, d1, f, fun _ _ => Iff.rfl, atI_nat (j := 0) rfl, atI_nat (j := 0) rfl⟩
  · exact ⟨d1, d0, f.swap, fun _ _ => ⟨Wd.swap, Wd.swap⟩, atI_nat (j := 1) rfl, atI_nat (j := 1) rfl⟩
/-! ### what the law has built -/
structure OwnR where
  o : Addr
  lo : Addr
  wo : Addr
  so : Addr
  kd : Addr
  ks : List Ent
  L : List Stand
  ln : List Int
  wy : List Bool
  S : Stand
structure OwnOk (P : Program) (w : World) (H : Hp) (r : OwnR) : Prop where
  ok : OkStand r.ln r.wy r.S
  few : Few r.ln r.S
  ne : r.wo ≠ r.o ∧ r.wo ≠ r.lo ∧ r.kd ≠ r.o ∧ r.kd ≠ r.lo ∧ r.lo ≠ r.o
  at_ : ∀ Z : List Addr, r.wo ∉ Z → r.kd ∉ Z → OKv P w Z H r.o r.lo r.ln r.wy r.S 0 .non r.wo r.so r.kd r.ks r.L
theorem OwnOk.same {r : OwnR} (h : OwnOk P w H r) (s : Same H H') : OwnOk P w H' r := ⟨h.ok, h.few, h.ne, fun Z a b => (h.at_ Z a b).keep (Keep.of (Z := []) s) (Ti.of s) (fun _ h => nomatch h) (fun h => nomatch h) (fun h => nomatch h)⟩
theorem OwnOk.there {r : OwnR} (h : OwnOk P w H r) : ∀ a ∈ [r.o, r.lo, r.wo, r.kd], H a ≠ none := fun a ha => by
  have z := h.at_ [] (fun h => nomatch h) (fun h => nomatch h)
  simp only [List.mem_cons, List.mem_nil_iff, or_false] at ha
  rcases ha with rfl | rfl | rfl | rfl
  · rw [z.at_]; exact fun h => nomatch h
  · rw [z.hL]; exact fun h => nomatch h
  · rw [z.hW]; exact fun h => nomatch h
  · rw [z.hK.dn.at_]; exact fun h => nomatch h
structure YR where
  p : Addr
  l1 : Addr
  l2 : Addr
  c : Addr
  dx : Addr
structure YOk (CY : Addr) (H0 H : Hp) (r : OwnR) (y : YR) : Prop where
  hp : H y.p = some (.ins CY y.dx (yf (.ref y.l1) (.ref y.l2) (.ref y.c) .non))
  h1 : H y.l1 = some (.lst (r.ln.map V.int))
  h2 : H y.l2 = some (.lst (r.wy.map fun b => V.str (wS b)))
  hS : StandAt H y.c r.S
  n12 : y.l1 ≠ y.l2
  fresh : ∀ a ∈ [y.p, y.l1, y.l2], H0 a = none
theorem YOk.keep {M : List Addr} {H0 : Hp} {r : OwnR} {y : YR} (k : Keep M H H') (t : Ti H H') (n : ∀ a ∈ [y.p, y.l1, y.l2], a ∉ M) (h : YOk CY H0 H r y) : YOk CY H0 H' r y :=
  ⟨k.1 _ _ h.hp (n _ (by simp)), k.1 _ _ h.h1 (n _ (by simp)), k.1 _ _ h.h2 (n _ (by simp)), h.hS.mono t, h.n12, h.fresh⟩
theorem YOk.there {H0 : Hp} {r : OwnR} {y : YR} (h : YOk CY H0 H r y) : ∀ a ∈ [y.p, y.l1, y.l2], H a ≠ none := fun a ha => by
  simp only [List.mem_cons, List.mem_nil_iff, or_false] at ha
  rcases ha with rfl | rfl | rfl
  · rw [h.hp]; exact fun h => nomatch h
  · rw [h.h1]; exact fun h => nomatch h
  · rw [h.h2]; exact fun h => nomatch h
theorem side_made {H0 : Hp} {r : OwnR} {y : YR} (ho : OwnOk P w H r) (hy : YOk CY H0 H r y) (n2 : y.l2 ∉ Z) (nw : r.wo ∉ Z) (nk : r.kd ∉ Z) : SideX P w CY Z H ⟨y.p, y.l1, r.o, r.lo⟩ :=
  ⟨r.ln, r.wy, r.S, ⟨none, 0, .non, r.wo, r.so, r.kd, r.ks, r.L, ⟨y.dx, y.l2, y.c, .non, hy.hp, hy.h1, ⟨hy.h2, n2⟩, hy.hS, rfl⟩, ho.at_ Z nw nk, True.intro, rfl⟩, ho.ok, ho.few⟩
end
end Slx

set_option Elab.async false
set_option linter.all false
set_option maxRecDepth 100000
set_option maxHeartbeats 4000000
namespace Slx
open PySem PySem.Spec PyProof.Rows L2 Sl
section
variable {P : Program} {w : World} {K : PySem.W.Frag} {mg : Str → Option Value} {base : Heap}
def spLaw (K : PySem.W.Frag) : Sp := fun vs H Q _ => ∃ a, ∃ ns : List Int, vs = [.ref a] ∧ SqL K H a (ns.map V.int) ∧ ns.length ≤ 63 ∧ ∀ H', Q (.bl true) H'
theorem law_fn (T : Txt K mg) {f : Addr} {fd : FuncData} (F : Fun K "law" "law" s_law f fd) : FnOk P w K mg base CX0 14 f fd ["_law_script"] (spLaw K) := by
  obtain ⟨CY, Y⟩ := T.yard
  obtain ⟨fy, fdy, Fy, ⟨ya, yi, yk⟩, yb⟩ := Y.m_yInit
  have Iy : FnOk P w K mg base CX0 5 fy fdy ["self", "lane", "ways", "stand"] (spYInit K CY) := ok_yInit T Y Fy
  have D_lOwn : DefOk P w K mg base 4 "_law_own" ["_law_script"] (spOwn P w K) := ok_lOwn T
  have D_lMoved : DefOk P w K mg base 8 "_law_moved" ["_law_yard", "_law_own_here", "_law_cell"] (spMoved P w CY) := ok_lMoved T Y
  have D_lLonger : DefOk P w K mg base 8 "_law_longer" ["_law_yard", "_law_own_here", "_law_cell"] (spLong P w CY) := ok_lLonger T Y
  have D_lLooked : DefOk P w K mg base 10 "_law_looked" ["_law_yard", "_law_own_here", "_law_held", "_law_cell"] (spLooked P w CY) := ok_lLooked T Y
  have D_lAnswer : DefOk P w K mg base 9 "_law_answer" ["_law_yard", "_law_own_here", "_law_held", "_law_question"] (spAnswer P w CY) := ok_lAnswer T Y
  have D_lCellAt : DefOk P w K mg base 1 "_law_cell_at" ["_law_script", "_law_k"] (spCellAt K) := ok_cellAt T
  refine F.ok sc_law (fun vs H Q E h => by obtain ⟨a, ns, rfl, _⟩ := h; rfl) (fun cdv A outer s H vs Q E hr h => ?_)
  obtain ⟨a, ns, rfl, hA, hn, q⟩ := h
  refine ⟨_, (C8.pss_cut (ps_set (i := 1) sc_law.nd rfl (.inl rfl) (pe_lst (pa_cons (pe_def D_lOwn (hr.mono (by omega)) (pa_cons (pv 0) pa_nil)) (pa_cons (pe_def D_lOwn (hr.mono (by omega)) (pa_cons (pe_slice sl_list (pv 0) (po_some pe_int) po_none) pa_nil)) pa_nil))))
      (pss_cons (ps_set (i := 2) sc_law.nd rfl (.inl rfl) (pe_lst pa_nil))
      (pss_cons (ps_for PassesOwn.never rfl (pi_listK (K := K) (pv 1)) (pg_name (i := 3) sc_law.nd rfl (.inl rfl)) (pss_cons (ps_set (i := 4) sc_law.nd rfl (.inl rfl) (pe_lst (pa_cons (pe_callTy call_list_of (by rfl) T.b_list (by decide +kernel) (pa_cons (pe_dget (hu_of hr) (pv 3) pe_str (fun _ _ => rfl)) pa_nil)) (pa_cons (pe_callTy call_list_of (by rfl) T.b_list (by decide +kernel) (pa_cons (pe_dget (hu_of hr) (pv 3) pe_str (fun _ _ => rfl)) pa_nil)) pa_nil))))
      (pss_cons (ps_expr (pe_bm PySem.F.plainAttrs_list PySem.F.slot_list_append PySem.F.type_list_append mt_append (pv 2) (pa_cons (pe_make (f := fy) (C := CY) ⟨Y.makes, ya, yi, Y.kp⟩ Iy (hr.mono (by omega)) (by rfl) Y.g yb .nil pass0 (pa_cons (pe_ix (r := rIxL K) ix_list (pv 4) pe_int (fun _ _ => rfl)) (pa_cons (pe_ix (r := rIxL K) ix_list (pv 4) pe_int (fun _ _ => rfl)) (pa_cons (pe_dget (hu_of hr) (pv 3) pe_str (fun _ _ => rfl)) pa_nil)))) pa_nil)))
      (pss_cons (ps_expr (pe_bm PySem.F.plainAttrs_list PySem.F.slot_list_append PySem.F.type_list_append mt_append (pe_ix (r := rIxL K) ix_list (pv 4) pe_int (fun _ _ => rfl)) (pa_cons pe_int pa_nil)))
      (pss_one (ps_expr (pe_bm0 PySem.F.plainAttrs_list PySem.F.slot_list_clear PySem.F.type_list_clear mt_clear (pe_ix (r := rIxL K) ix_list (pv 4) pe_int (fun _ _ => rfl)))))))))
      (pss_cons (ps_set (i := 5) sc_law.nd rfl (.inl rfl) (pe_lst pa_nil))
      (pss_cons (ps_for PassesOwn.never rfl (pi_listK (K := K) (pe_slice sl_list (pv 0) (po_some pe_int) (po_some pe_int))) (pg_name (i := 6) sc_law.nd rfl (.inl rfl)) (pss_cons (ps_set (i := 7) sc_law.nd rfl (.inl rfl) (pe_callTy call_int1 (by rfl) T.b_int (by decide +kernel) (pa_cons (pe_cmpR op_eq (pe_op op_mod (pv 6) pe_int) pe_int (nomark _)) pa_nil)))
      (pss_cons (ps_set (i := 8) sc_law.nd rfl (.inl rfl) (pe_op op_fdiv (pv 6) pe_int))
      (C8.pss_cut (ps_if (pt_cmpR op_lt (pe_op op_mod (pv 8) pe_int) pe_int (nomark _)) (pss_one (ps_set (i := 9) sc_law.nd rfl (.inl rfl) (pe_def D_lMoved (hr.mono (by omega)) (pa_cons (pe_ix (r := rIxL K) ix_list (pv 2) (pv 7) (fun _ _ => rfl)) (pa_cons (pe_ix (r := rIxL K) ix_list (pv 1) (pv 7) (fun _ _ => rfl)) (pa_cons (pe_op op_fdiv (pv 8) pe_int) pa_nil)))))) (pss_one (ps_set (i := 9) sc_law.nd rfl (.inl rfl) (pe_def D_lLonger (hr.mono (by omega)) (pa_cons (pe_ix (r := rIxL K) ix_list (pv 2) (pv 7) (fun _ _ => rfl)) (pa_cons (pe_ix (r := rIxL K) ix_list (pv 1) (pv 7) (fun _ _ => rfl)) (pa_cons (pe_op op_fdiv (pv 8) pe_int) pa_nil)))))))
      (pss_one (ps_if (PW.pt (pw_or (pt_not (pt_val (pv 9))) (pw_or1 (pt_not (pt_val (pe_def D_lLooked (hr.mono (by omega)) (pa_cons (pe_ix (r := rIxL K) ix_list (pv 2) (pv 7) (fun _ _ => rfl)) (pa_cons (pe_ix (r := rIxL K) ix_list (pv 1) (pv 7) (fun _ _ => rfl)) (pa_cons (pv 5) (pa_cons (pe_op op_fdiv (pv 8) pe_int) pa_nil)))))))))) (pss_one (ps_ret pe_bl)) pss_nil))))))
      (pss_cons (ps_for PassesOwn.never rfl (pi_range1 (by rfl) T.b_range (pa_cons pe_int pa_nil)) (pg_name (i := 10) sc_law.nd rfl (.inl rfl)) (pss_one (ps_for PassesOwn.never rfl (pi_range1 (by rfl) T.b_range (pa_cons pe_int pa_nil)) (pg_name (i := 11) sc_law.nd rfl (.inl rfl)) (pss_one (ps_if (pt_not (pt_val (pe_def D_lAnswer (hr.mono (by omega)) (pa_cons (pe_ix (r := rIxL K) ix_list (pv 2) (pv 10) (fun _ _ => rfl)) (pa_cons (pe_ix (r := rIxL K) ix_list (pv 1) (pv 10) (fun _ _ => rfl)) (pa_cons (pv 5) (pa_cons (pe_op op_mod (pe_op op_add (pv 11) (pe_def D_lCellAt (hr.mono (by omega)) (pa_cons (pv 0) (pa_cons pe_int pa_nil)))) pe_int) pa_nil))))))) (pss_one (ps_ret pe_bl)) pss_nil)))))
      (pss_one (ps_ret (pe_cmpR (r := rEqD K) (op_eqD (hu64 hr)) (pe_lc (g := gName 12) (own := [("_law_pair", 12)]) rfl sc_law.nd (pi_listK (K := K) (pv 5)) (blkOk_by (own := [("_law_pair", 12)]) (N := ["_law_script", "_law_owns", "_law_yards", "_law_own_here", "_law_handed", "_law_held", "_law_cell", "_law_at", "_law_more", "_law_good", "_law_k", "_law_question", "_law_pair"]) (sc := defScope s_law) (by decide +kernel)) (fun _ _ _ _ _ => (pg_name (i := 12) sc_law.nd rfl (.inl rfl))) (fun _ _ _ _ _ => (pts_one (pt_cmpR (r := rNeD K) (op_neD (hu64 hr)) (pe_ix (r := rIxT K) ix_tup (pv 12) pe_int (fun _ _ => rfl)) (pe_ix (r := rIxT K) ix_tup (pv 12) pe_int (fun _ _ => rfl)) (nomark _)))) (fun _ _ _ _ _ => (pv 12))) (pe_lst pa_nil) (nomark _)))))))))), ?_⟩
  refine ⟨fun σ G => Same H G ∧ ∃ (ol : Addr) (r0 r1 : OwnR), σ = [some (.ref a), some (.ref ol), none, none, none, none, none, none, none, none, none, none, none] ∧ G ol = some (.lst [.ref r0.o, .ref r1.o]) ∧ OwnOk P w G r0 ∧ OwnOk P w G r1 ∧ (∀ x ∈ [r0.o, r0.lo, r0.wo, r0.kd], ∀ y ∈ [r1.o, r1.lo, r1.wo, r1.kd], x ≠ y) ∧ (∀ x ∈ [r0.o, r0.lo, r1.o, r1.lo], H x = none), ?_, fun σ G mid => ?_⟩
  · refine ⟨.ref a, rfl, a, ns, rfl, hA, fun H1 o0 lo0 wo0 so0 kd0 ks0 L0 ln0 wy0 S0 s1 fr0 ne0 ok0 few0 ho0 => ?_⟩
    have R0 : OwnOk P w H1 ⟨o0, lo0, wo0, so0, kd0, ks0, L0, ln0, wy0, S0⟩ := ⟨ok0, few0, ne0, ho0⟩
    obtain ⟨ms, ems⟩ := cut_ints ns (some (5 : Int)) none
    refine ⟨.ref a, rfl, 5, rfl, ?_⟩
    dsimp only [tNoPart]
    refine ⟨a, _, rfl, s1.seq hA, fun sl hsl => ?_⟩
    rw [ems]
    have s2 := same_new (o := .lst (ms.map V.int)) hsl
    have es : (upd H1 sl (.lst (ms.map V.int))) sl = some (.lst (ms.map V.int)) := upd_same
    generalize upd H1 sl (.lst (ms.map V.int)) = H2 at s2 es
    refine ⟨sl, ms, rfl, .inl (.inl es), fun H3 o1 lo1 wo1 so1 kd1 ks1 L1 ln1 wy1 S1 s3 fr1 ne1 ok1 few1 ho1 => ⟨two_size, fun ol hol => ?_⟩⟩
    have R1 : OwnOk P w H3 ⟨o1, lo1, wo1, so1, kd1, ks1, L1, ln1, wy1, S1⟩ := ⟨ok1, few1, ne1, ho1⟩
    have s4 := same_new (o := .lst [.ref o0, .ref o1]) hol
    refine ⟨s1.trans (s2.trans (s3.trans s4)), ol, _, _, rfl, upd_same, R0.same (s2.trans (s3.trans s4)), R1.same s4, fun x hx y hy z => ?_, fun x hx => ?_⟩
    rotate_left
    · simp only [List.mem_cons, List.mem_nil_iff, or_false] at hx
      rcases hx with rfl | rfl | rfl | rfl
      · exact fr0.1
      · exact fr0.2.1
      · exact (s1.trans s2).free fr1.1
      · exact (s1.trans s2).free fr1.2.1
    have hx1 := R0.there x hx
    have hy1 : H1 y = none := s2.free (by
      simp only [List.mem_cons, List.mem_nil_iff, or_false] at hy
      rcases hy with rfl | rfl | rfl | rfl
      · exact fr1.1
      · exact fr1.2.1
      · exact fr1.2.2.1
      · exact fr1.2.2.2)
    exact hx1 (by rw [z]; exact hy1)
  obtain ⟨s1, ol, r0, r1, rfl, eol, R0, R1, apart, frH⟩ := mid
  refine ⟨Nat.zero_le _, fun yl hyl => ?_⟩
  have s2 := same_new (o := .lst []) hyl
  have eyl : (upd G yl (.lst [])) yl = some (.lst []) := upd_same
  generalize upd G yl (.lst []) = H4 at s2 eyl
  have eol4 := s2 _ _ eol
  have nly : ol ≠ yl := fun z => by rw [z, hyl] at eol; cases eol
  obtain ⟨rr, er0, er1⟩ : ∃ rr : Nat → OwnR, rr 0 = r0 ∧ rr 1 = r1 := ⟨fun i => if i = 0 then r0 else r1, rfl, rfl⟩
  have RR : ∀ i, i < 2 → OwnOk P w G (rr i) := fun i hi => by
    rcases (by omega : i = 0 ∨ i = 1) with rfl | rfl
    · rw [er0]; exact R0
    · rw [er1]; exact R1
  refine ⟨.ref ol, rfl, ol, rfl, ⟨_, .inl (.inl eol4)⟩, ?_⟩
  refine for_it (walk_list (K := K) (a := ol) (xs := [.ref r0.o, .ref r1.o])) (fun i σ G5 => Same G G5 ∧ Keep [yl] H4 G5 ∧ (∃ ys : List YR, ys.length = i ∧ G5 yl = some (.lst (ys.map fun y => .ref y.p)) ∧ (∀ (j : Nat) (y : YR), ys[j]? = some y → YOk CY H4 G5 (rr j) y) ∧ (ys.flatMap fun y => [y.p, y.l1, y.l2]).Nodup) ∧ ∃ y3 y4, σ = [some (.ref a), some (.ref ol), some (.ref yl), y3, y4, none, none, none, none, none, none, none, none])
    ⟨s2, Keep.refl, ⟨[], rfl, eyl, fun _ _ h => (by simp at h), List.nodup_nil⟩, none, none, rfl⟩ (fun i σ G5 _ z => .inl (.inl (z.2.1.1 _ _ eol4 (by simpa using nly)))) (fun i x σ G5 G6 hi z y => ?_) (fun σ G5 z => ?_)
  · obtain ⟨sG, kG, ⟨ys, ly, ey, hys, nd⟩, y3, y4, rfl⟩ := z
    obtain ⟨rfl, ex⟩ := y
    have hi2 : i < 2 := hi
    obtain rfl : x = .ref (rr i).o := by
      rcases (by omega : i = 0 ∨ i = 1) with rfl | rfl
      · rw [er0]; simpa using ex.symm
      · rw [er1]; simpa using ex.symm
    have Ri := (RR i hi2).same sG
    have ho := Ri.at_ [] (fun h => nomatch h) (fun h => nomatch h)
    generalize hri : rr i = ri at Ri ho
    refine ⟨.ref ri.o, rfl, ri.o, .ref ri.lo, rfl, dgV ho.at_ rfl, ri.lo, _, rfl, .inl (.inl (.inl ho.hL)), fun h0 hh0 => ?_⟩
    have u1 := same_new (o := .lst (ri.ln.map V.int)) hh0
    have e0 : (upd G6 h0 (.lst (ri.ln.map V.int))) h0 = some (.lst (ri.ln.map V.int)) := upd_same
    generalize upd G6 h0 (.lst (ri.ln.map V.int)) = A1 at u1 e0
    refine ⟨.ref ri.o, rfl, ri.o, .ref ri.wo, rfl, dgV (u1 _ _ ho.at_) rfl, ri.wo, _, rfl, .inl (.inl (.inl (u1 _ _ ho.hW))), fun h1 hh1 => ⟨two_size, fun hd hhd => ?_⟩⟩
    have u2 := same_new (o := .lst (ri.wy.map fun b => V.str (wS b))) hh1
    have e1 : (upd A1 h1 (.lst (ri.wy.map fun b => V.str (wS b)))) h1 = some (.lst (ri.wy.map fun b => V.str (wS b))) := upd_same
    have n01 : h0 ≠ h1 := ne_none e0 hh1
    generalize upd A1 h1 (.lst (ri.wy.map fun b => V.str (wS b))) = A2 at u2 e1 hhd
    have u3 := same_new (o := .lst [.ref h0, .ref h1]) hhd
    have ed : (upd A2 hd (.lst [.ref h0, .ref h1])) hd = some (.lst [.ref h0, .ref h1]) := upd_same
    have f1 : G6 h1 = none := u1.free hh1
    have e03 := u3 _ _ (u2 _ _ e0)
    have e13 := u3 _ _ e1
    have ndh0 : hd ≠ h0 := fun z => by have := u2 _ _ e0; rw [← z, hhd] at this; cases this
    have ndh1 : hd ≠ h1 := fun z => by rw [← z, hhd] at e1; cases e1
    generalize upd A2 hd (.lst [.ref h0, .ref h1]) = A3 at u3 ed e03 e13
    have u13 := u1.trans (u2.trans u3)
    have ho3 := ho.keep (Keep.of (Z := []) u13) (Ti.of u13) (fun _ h => nomatch h) (fun h => nomatch h) (fun h => nomatch h)
    refine ⟨.ref yl, rfl, .inl ⟨rfl, _, .inl (.inl (u13 _ _ ey))⟩, .ref hd, rfl, hd, _, 0, _, rfl, rfl, .inl (.inl ed), at0, .ref hd, rfl, hd, _, 1, _, rfl, rfl, .inl (.inl ed), at1, .ref ri.o, rfl, ri.o, .ref ri.so, rfl, dgV ho3.at_ rfl, fun p dx hp hdx ndx => ?_⟩
    have sA : Same A3 (upd (upd A3 dx (.own p)) p (.ins CY dx [])) := fun x u e => by
      rw [upd_ne (fun z => by rw [z, hp] at e; cases e), upd_ne (fun z => by rw [z, hdx] at e; cases e)]
      exact e
    have ep : (upd (upd A3 dx (.own p)) p (.ins CY dx [])) p = some (.ins CY dx []) := upd_same
    generalize upd (upd A3 dx (.own p)) p (.ins CY dx []) = A4 at sA ep
    refine ⟨p, dx, h0, h1, ri.so, ri.ln, ri.wy, ri.S, rfl, ep, ⟨sA _ _ e03, sA _ _ e13⟩, ho3.hS.mono (Ti.of sA), Ri.ok, fun A5 l1 l2 k5 t5 fl1 fl2 nl12 ep5 el1 el2 => ⟨rfl, ?_⟩⟩
    have pn : ∀ {x : Addr} {u : HO}, A3 x = some u → x ≠ p := fun e z => by rw [z, hp] at e; cases e
    have sA5 : Same A3 A5 := fun x u e => k5.1 _ _ (sA _ _ e) (by simpa using pn e)
    have s65 := u13.trans sA5
    have z3 : ys.length < 3 := by omega
    refine ⟨yl, _, .ref p, rfl, rfl, s65 _ _ ey, by rw [List.length_map]; exact Nat.lt_trans z3 (by decide), ?_⟩
    have ey5 := s65 _ _ ey
    have ed5 := sA5 _ _ ed
    have e05 := sA5 _ _ e03
    have e15 := sA5 _ _ e13
    have fh0 : G6 h0 = none := hh0
    have fhd : G6 hd = none := (u1.trans u2).free hhd
    have nyh0 : yl ≠ h0 := ne_none ey hh0
    have nyh1 : yl ≠ h1 := ne_none ey f1
    have nyhd : yl ≠ hd := ne_none ey fhd
    have ls : (ys.map fun y => V.ref y.p) ++ [.ref p] = (ys ++ [(⟨p, l1, l2, ri.so, dx⟩ : YR)]).map fun y => V.ref y.p := by rw [List.map_append]; rfl
    rw [ls]
    have ed6 : (upd A5 yl (.lst ((ys ++ [(⟨p, l1, l2, ri.so, dx⟩ : YR)]).map fun y => V.ref y.p))) hd = some (.lst [.ref h0, .ref h1]) := by rw [upd_ne nyhd.symm]; exact ed5
    have e06 : (upd A5 yl (.lst ((ys ++ [(⟨p, l1, l2, ri.so, dx⟩ : YR)]).map fun y => V.ref y.p))) h0 = some (.lst (ri.ln.map V.int)) := by rw [upd_ne nyh0.symm]; exact e05
    have e16 : (upd A5 yl (.lst ((ys ++ [(⟨p, l1, l2, ri.so, dx⟩ : YR)]).map fun y => V.ref y.p))) h1 = some (.lst (ri.wy.map fun b => V.str (wS b))) := by rw [upd_ne nyh1.symm]; exact e15
    have ey6 : (upd A5 yl (.lst ((ys ++ [(⟨p, l1, l2, ri.so, dx⟩ : YR)]).map fun y => V.ref y.p))) yl = some (.lst ((ys ++ [(⟨p, l1, l2, ri.so, dx⟩ : YR)]).map fun y => V.ref y.p)) := upd_same
    have k6 : Keep [yl, h0, h1] A5 (upd A5 yl (.lst ((ys ++ [(⟨p, l1, l2, ri.so, dx⟩ : YR)]).map fun y => V.ref y.p))) := Keep.refl.upd (by simp)
    have t6 : Ti A5 (upd A5 yl (.lst ((ys ++ [(⟨p, l1, l2, ri.so, dx⟩ : YR)]).map fun y => V.ref y.p))) := Ti.lst ey5
    generalize upd A5 yl (.lst ((ys ++ [(⟨p, l1, l2, ri.so, dx⟩ : YR)]).map fun y => V.ref y.p)) = A6 at ed6 e06 e16 ey6 k6 t6
    have zln : (ri.ln.map V.int).length < sizeLine := by have := Ri.ok.lane.most; rw [List.length_map]; exact Nat.lt_of_le_of_lt this (by decide)
    refine ⟨.ref hd, rfl, hd, _, 0, _, rfl, rfl, .inl (.inl ed6), at0, .inl ⟨rfl, _, .inl (.inl e06)⟩, h0, _, .int 0, rfl, rfl, e06, zln, ?_⟩
    have ed7 : (upd A6 h0 (.lst (ri.ln.map V.int ++ [.int 0]))) hd = some (.lst [.ref h0, .ref h1]) := by rw [upd_ne ndh0]; exact ed6
    have e17 : (upd A6 h0 (.lst (ri.ln.map V.int ++ [.int 0]))) h1 = some (.lst (ri.wy.map fun b => V.str (wS b))) := by rw [upd_ne n01.symm]; exact e16
    have ey7 : (upd A6 h0 (.lst (ri.ln.map V.int ++ [.int 0]))) yl = some (.lst ((ys ++ [(⟨p, l1, l2, ri.so, dx⟩ : YR)]).map fun y => V.ref y.p)) := by rw [upd_ne nyh0]; exact ey6
    have k7 : Keep [yl, h0, h1] A5 (upd A6 h0 (.lst (ri.ln.map V.int ++ [.int 0]))) := k6.upd (by simp)
    have t7 : Ti A5 (upd A6 h0 (.lst (ri.ln.map V.int ++ [.int 0]))) := t6.trans (Ti.lst e06)
    generalize upd A6 h0 (.lst (ri.ln.map V.int ++ [.int 0])) = A7 at ed7 e17 ey7 k7 t7
    refine ⟨.ref hd, rfl, hd, _, 1, _, rfl, rfl, .inl (.inl ed7), at1, .inl ⟨rfl, _, .inl (.inl e17)⟩, ?_⟩
    refine ⟨h1, _, rfl, rfl, e17, ?_⟩
    have ey8 : (upd A7 h1 (.lst [])) yl = some (.lst ((ys ++ [(⟨p, l1, l2, ri.so, dx⟩ : YR)]).map fun y => V.ref y.p)) := by rw [upd_ne nyh1]; exact ey7
    have k8 : Keep [yl, h0, h1] A5 (upd A7 h1 (.lst [])) := k7.upd (by simp)
    have t8 : Ti A5 (upd A7 h1 (.lst [])) := t7.trans (Ti.lst e17)
    generalize upd A7 h1 (.lst []) = B at ey8 k8 t8
    clear ed7 e17 ey7 k7 t7 ed6 e06 e16 ey6 k6 t6
    have kB : Keep [yl, h0, h1] G6 B := (Keep.of s65).trans k8
    have tB : Ti G6 B := (Ti.of s65).trans t8
    have kY : Keep [yl] G6 B := ⟨fun x u e n => kB.1 x u e (by
      simp only [List.mem_cons, List.mem_nil_iff, or_false] at n ⊢
      intro z
      rcases z with z | z | z
      · exact n z
      · rw [z, fh0] at e; cases e
      · rw [z, f1] at e; cases e), kB.2⟩
    have sGB : Same G B := fun x u e => kY.1 _ _ (sG _ _ e) (by simp; intro z; rw [z, hyl] at e; cases e)
    have nn : ∀ {x : Addr}, A4 x = none → A3 x = none := fun {x} n => by
      cases e : A3 x with
      | none => rfl
      | some u => rw [sA _ _ e] at n; cases n
    have n3 : ∀ x ∈ [p, l1, l2], A3 x = none := fun x hx => by
      simp only [List.mem_cons, List.mem_nil_iff, or_false] at hx
      rcases hx with rfl | rfl | rfl
      · exact hp
      · exact nn fl1
      · exact nn fl2
    have n6 : ∀ x ∈ [p, l1, l2], G6 x = none := fun x hx => u13.free (n3 x hx)
    have n4 : ∀ x ∈ [p, l1, l2], H4 x = none := fun x hx => by
      cases e : H4 x with
      | none => rfl
      | some u => exact absurd (n6 x hx) (kG.2 x (by rw [e]; exact fun z => nomatch z))
    have out : ∀ x ∈ [p, l1, l2], x ∉ [yl, h0, h1] := fun x hx z => by
      have := n3 x hx
      simp only [List.mem_cons, List.mem_nil_iff, or_false] at z
      rcases z with z | z | z
      · rw [z, u13 _ _ ey] at this; cases this
      · rw [z, e03] at this; cases this
      · rw [z, e13] at this; cases this
    have pl1 : p ≠ l1 := fun z => by rw [z, el1] at ep5; cases ep5
    have pl2 : p ≠ l2 := fun z => by rw [z, el2] at ep5; cases ep5
    refine ⟨sGB, kG.trans kY, ⟨ys ++ [⟨p, l1, l2, ri.so, dx⟩], by rw [List.length_append, ly]; rfl, ey8, fun j y hj => ?_, ?_⟩, _, _, rfl⟩
    · rcases Nat.lt_or_ge j ys.length with hlt | hge
      · rw [List.getElem?_append_left hlt] at hj
        have hy := hys j y hj
        refine hy.keep kY tB fun x hx z => ?_
        have h4 := hy.fresh x hx
        rw [List.mem_singleton.mp z, eyl] at h4
        cases h4
      · have hjl : j < (ys ++ [(⟨p, l1, l2, ri.so, dx⟩ : YR)]).length := (List.getElem?_eq_some_iff.mp hj).1
        rw [List.length_append, List.length_singleton] at hjl
        have hji : j = i := by omega
        rw [List.getElem?_append_right hge, show j - ys.length = 0 by omega] at hj
        obtain rfl : (⟨p, l1, l2, ri.so, dx⟩ : YR) = y := by simpa using hj
        rw [hji, hri]
        exact ⟨k8.1 _ _ ep5 (out _ (by simp)), k8.1 _ _ el1 (out _ (by simp)), k8.1 _ _ el2 (out _ (by simp)), (ho3.hS.mono (Ti.of sA5)).mono t8, nl12, n4⟩
    · rw [List.flatMap_append]
      refine List.nodup_append.mpr ⟨nd, ?_, fun x hx y hy z => ?_⟩
      · simp [pl1, pl2, nl12]
      · obtain ⟨r, hr', hxr⟩ := List.mem_flatMap.mp hx
        obtain ⟨j, hj⟩ := List.mem_iff_getElem?.mp hr'
        have h5 := (hys j r hj).there x hxr
        have hy' : y ∈ [p, l1, l2] := by simpa using hy
        exact h5 (by rw [z]; exact n6 y hy')
  · obtain ⟨sG, kG, ⟨ys, ly, ey, hys, nd⟩, y3, y4, rfl⟩ := z
    obtain ⟨y0, y1, rfl⟩ : ∃ y0 y1, ys = [y0, y1] := by
      match ys, ly with
      | [y0, y1], _ => exact ⟨y0, y1, rfl⟩
    have Y0 : YOk CY H4 G5 r0 y0 := by rw [← er0]; exact hys 0 y0 rfl
    have Y1 : YOk CY H4 G5 r1 y1 := by rw [← er1]; exact hys 1 y1 rfl
    have nd6 : [y0.p, y0.l1, y0.l2, y1.p, y1.l1, y1.l2].Nodup := nd
    clear nd hys ly
    simp only [List.nodup_cons, List.mem_cons, List.mem_nil_iff, or_false, not_or, List.nodup_nil, and_true, not_false_eq_true] at nd6
    obtain ⟨⟨a1, a2, a3, a4, a5⟩, ⟨b2, b3, b4, b5⟩, ⟨c3, c4, c5⟩, ⟨d4, d5⟩, e5'⟩ := nd6
    have w0 := (R0.same s2).there
    have w1 := (R1.same s2).there
    have fr : ∀ {x y : Addr}, H4 x = none → H4 y ≠ none → x ≠ y := fun h n z => n (by rw [← z]; exact h)
    have v0 := Y0.fresh
    have v1 := Y1.fresh
    have y0p := v0 y0.p (by simp)
    have y0l := v0 y0.l1 (by simp)
    have y0m := v0 y0.l2 (by simp)
    have y1p := v1 y1.p (by simp)
    have y1l := v1 y1.l1 (by simp)
    have y1m := v1 y1.l2 (by simp)
    have r0o := w0 r0.o (by simp)
    have r0l := w0 r0.lo (by simp)
    have r0w := w0 r0.wo (by simp)
    have r0k := w0 r0.kd (by simp)
    have r1o := w1 r1.o (by simp)
    have r1l := w1 r1.lo (by simp)
    have r1w := w1 r1.wo (by simp)
    have r1k := w1 r1.kd (by simp)
    obtain ⟨n1, n2, n3, n4, n5⟩ := R0.ne
    obtain ⟨m1, m2, m3, m4, m5⟩ := R1.ne
    refine ⟨Nat.zero_le _, fun hl hhl => ?_⟩
    have s6 := same_new (o := .lst []) hhl
    have ehl : (upd G5 hl (.lst [])) hl = some (.lst []) := upd_same
    generalize upd G5 hl (.lst []) = G6 at s6 ehl
    have t0 := Y0.there
    have t1 := Y1.there
    have q0 := (R0.same sG).there
    have q1 := (R1.same sG).there
    have nh : ∀ {x : Addr}, G5 x ≠ none → x ≠ hl := fun n z => n (by rw [z]; exact hhl)
    let Z : List Addr := [y0.p, y0.l1, r0.o, r0.lo, y1.p, y1.l1, r1.o, r1.lo, hl]
    let d0 : Sd := ⟨y0.p, y0.l1, r0.o, r0.lo⟩
    let d1 : Sd := ⟨y1.p, y1.l1, r1.o, r1.lo⟩
    have fx : Fix Z d0 d1 hl := by
      refine ⟨fun x hx => ?_, fun x hx => ?_, by simp [Z], fun x hx hy => ?_, fun z => ?_, fun z => ?_, fr y0l r0l, fr y1l r1l⟩
      · simp only [d0, Sd.as, List.mem_cons, List.mem_nil_iff, or_false] at hx
        rcases hx with rfl | rfl | rfl | rfl <;> simp [Z]
      · simp only [d1, Sd.as, List.mem_cons, List.mem_nil_iff, or_false] at hx
        rcases hx with rfl | rfl | rfl | rfl <;> simp [Z]
      · simp only [d0, d1, Sd.as, List.mem_cons, List.mem_nil_iff, or_false] at hx hy
        rcases hx with rfl | rfl | rfl | rfl
        · rcases hy with z | z | z | z
          · exact a3 z
          · exact a4 z
          · exact fr y0p r1o z
          · exact fr y0p r1l z
        · rcases hy with z | z | z | z
          · exact b3 z
          · exact b4 z
          · exact fr y0l r1o z
          · exact fr y0l r1l z
        · rcases hy with z | z | z | z
          · exact fr y1p r0o z.symm
          · exact fr y1l r0o z.symm
          · exact apart _ (by simp) _ (by simp) z
          · exact apart r0.o (by simp) r1.lo (by simp) z
        · rcases hy with z | z | z | z
          · exact fr y1p r0l z.symm
          · exact fr y1l r0l z.symm
          · exact apart r0.lo (by simp) r1.o (by simp) z
          · exact apart r0.lo (by simp) r1.lo (by simp) z
      · simp only [d0, Sd.as, List.mem_cons, List.mem_nil_iff, or_false] at z
        rcases z with z | z | z | z
        · exact nh (t0 y0.p (by simp)) z.symm
        · exact nh (t0 y0.l1 (by simp)) z.symm
        · exact nh (q0 r0.o (by simp)) z.symm
        · exact nh (q0 r0.lo (by simp)) z.symm
      · simp only [d1, Sd.as, List.mem_cons, List.mem_nil_iff, or_false] at z
        rcases z with z | z | z | z
        · exact nh (t1 y1.p (by simp)) z.symm
        · exact nh (t1 y1.l1 (by simp)) z.symm
        · exact nh (q1 r1.o (by simp)) z.symm
        · exact nh (q1 r1.lo (by simp)) z.symm
    have notZ : ∀ {x : Addr}, x ≠ y0.p → x ≠ y0.l1 → x ≠ r0.o → x ≠ r0.lo → x ≠ y1.p → x ≠ y1.l1 → x ≠ r1.o → x ≠ r1.lo → x ≠ hl → x ∉ Z := fun g1 g2 g3 g4 g5 g6 g7 g8 g9 z => by
      simp only [Z, List.mem_cons, List.mem_nil_iff, or_false] at z
      rcases z with z | z | z | z | z | z | z | z | z
      · exact g1 z
      · exact g2 z
      · exact g3 z
      · exact g4 z
      · exact g5 z
      · exact g6 z
      · exact g7 z
      · exact g8 z
      · exact g9 z
    have R0' := (R0.same sG).same s6
    have R1' := (R1.same sG).same s6
    have Y0' : YOk CY H4 G6 r0 y0 := Y0.keep (Keep.of (Z := []) s6) (Ti.of s6) (fun _ _ h => nomatch h)
    have Y1' : YOk CY H4 G6 r1 y1 := Y1.keep (Keep.of (Z := []) s6) (Ti.of s6) (fun _ _ h => nomatch h)
    have sd0 : SideX P w CY Z G6 d0 := side_made R0' Y0'
      (notZ (Ne.symm a2) (Ne.symm b2) (fr y0m r0o) (fr y0m r0l) c3 c4 (fr y0m r1o) (fr y0m r1l) (nh (t0 y0.l2 (by simp))))
      (notZ (fr y0p r0w).symm (fr y0l r0w).symm n1 n2 (fr y1p r0w).symm (fr y1l r0w).symm (apart r0.wo (by simp) r1.o (by simp)) (apart r0.wo (by simp) r1.lo (by simp)) (nh (q0 r0.wo (by simp))))
      (notZ (fr y0p r0k).symm (fr y0l r0k).symm n3 n4 (fr y1p r0k).symm (fr y1l r0k).symm (apart r0.kd (by simp) r1.o (by simp)) (apart r0.kd (by simp) r1.lo (by simp)) (nh (q0 r0.kd (by simp))))
    have sd1 : SideX P w CY Z G6 d1 := side_made R1' Y1'
      (notZ (Ne.symm a5) (Ne.symm b5) (fr y1m r0o) (fr y1m r0l) (Ne.symm d5) (Ne.symm e5') (fr y1m r1o) (fr y1m r1l) (nh (t1 y1.l2 (by simp))))
      (notZ (fr y0p r1w).symm (fr y0l r1w).symm (apart r0.o (by simp) r1.wo (by simp)).symm (apart r0.lo (by simp) r1.wo (by simp)).symm (fr y1p r1w).symm (fr y1l r1w).symm m1 m2 (nh (q1 r1.wo (by simp))))
      (notZ (fr y0p r1k).symm (fr y0l r1k).symm (apart r0.o (by simp) r1.kd (by simp)).symm (apart r0.lo (by simp) r1.kd (by simp)).symm (fr y1p r1k).symm (fr y1l r1k).symm m3 m4 (nh (q1 r1.kd (by simp))))
    have wd6 : Wd P w CY Z G6 d0 d1 hl 0 := by
      refine ⟨sd0, sd1, ⟨[], ehl, Nat.le_refl _, fun _ h => nomatch h⟩, fun x hx => ?_⟩
      have k6 := (Keep.of (Z := []) s6).2
      simp only [Z, List.mem_cons, List.mem_nil_iff, or_false] at hx
      rcases hx with rfl | rfl | rfl | rfl | rfl | rfl | rfl | rfl | rfl
      · exact k6 _ (t0 y0.p (by simp))
      · exact k6 _ (t0 y0.l1 (by simp))
      · exact k6 _ (q0 r0.o (by simp))
      · exact k6 _ (q0 r0.lo (by simp))
      · exact k6 _ (t1 y1.p (by simp))
      · exact k6 _ (t1 y1.l1 (by simp))
      · exact k6 _ (q1 r1.o (by simp))
      · exact k6 _ (q1 r1.lo (by simp))
      · rw [ehl]; exact fun h => nomatch h
    have nol : ol ∉ Z := by
      have h4 : H4 ol ≠ none := by rw [eol4]; exact fun h => nomatch h
      have hG : G ol = some (.lst [.ref r0.o, .ref r1.o]) := eol
      have z0 := R0.at_ [] (fun h => nomatch h) (fun h => nomatch h)
      have z1 := R1.at_ [] (fun h => nomatch h) (fun h => nomatch h)
      refine notZ (fr y0p h4).symm (fr y0l h4).symm ?_ ?_ (fr y1p h4).symm (fr y1l h4).symm ?_ ?_ (nh (by rw [kG.1 _ _ eol4 (by simpa using nly)]; exact fun h => nomatch h))
      · intro z; rw [z, z0.at_] at hG; cases hG
      · intro z
        rw [z, z0.hL] at hG
        have h := HO.lst.inj (Option.some.inj hG)
        cases hln : r0.ln with
        | nil => rw [hln] at h; simp at h
        | cons i is => rw [hln] at h; simp at h
      · intro z; rw [z, z1.at_] at hG; cases hG
      · intro z
        rw [z, z1.hL] at hG
        have h := HO.lst.inj (Option.some.inj hG)
        cases hln : r1.ln with
        | nil => rw [hln] at h; simp at h
        | cons i is => rw [hln] at h; simp at h
    have nyl : yl ∉ Z := by
      have h4 : H4 yl ≠ none := by rw [eyl]; exact fun h => nomatch h
      have w0' := R0.there
      have w1' := R1.there
      have ng : ∀ {x : Addr}, G x ≠ none → yl ≠ x := fun n z => n (by rw [← z]; exact hyl)
      exact notZ (fr y0p h4).symm (fr y0l h4).symm (ng (w0' r0.o (by simp))) (ng (w0' r0.lo (by simp))) (fr y1p h4).symm (fr y1l h4).symm (ng (w1' r1.o (by simp))) (ng (w1' r1.lo (by simp))) (nh (by rw [ey]; exact fun h => nomatch h))
    have eol6 : G6 ol = some (.lst [.ref d0.o, .ref d1.o]) := s6 _ _ (kG.1 _ _ eol4 (by simpa using nly))
    have eyl6 : G6 yl = some (.lst [.ref d0.p, .ref d1.p]) := s6 _ _ ey
    have hA6 := (s1.trans (sG.trans s6)).seq hA
    have sH6 := s1.trans (sG.trans s6)
    have fHZ : ∀ x ∈ Z, H x = none := fun x hx => by
      have s12 := s1.trans s2
      simp only [Z, List.mem_cons, List.mem_nil_iff, or_false] at hx
      rcases hx with rfl | rfl | rfl | rfl | rfl | rfl | rfl | rfl | rfl
      · exact s12.free y0p
      · exact s12.free y0l
      · exact frH _ (by simp)
      · exact frH _ (by simp)
      · exact s12.free y1p
      · exact s12.free y1l
      · exact frH _ (by simp)
      · exact frH _ (by simp)
      · exact (s1.trans sG).free hhl
    clear_value Z d0 d1
    clear sd0 sd1 R0' R1' Y0' Y1' Y0 Y1 nh notZ fr
    obtain ⟨ms, ems⟩ := cut_ints ns (some (20 : Int)) (some (30 : Int))
    have zms : ms.length ≤ 10 := by
      have h := cut_ten (xs := ns.map V.int)
      rw [ems, List.length_map] at h
      exact h
    refine ⟨.ref a, rfl, 20, rfl, 30, rfl, a, _, rfl, hA6, fun tl htl => ?_⟩
    rw [ems]
    have s7 := same_new (o := .lst (ms.map V.int)) htl
    have etl : (upd G6 tl (.lst (ms.map V.int))) tl = some (.lst (ms.map V.int)) := upd_same
    generalize upd G6 tl (.lst (ms.map V.int)) = G8 at s7 etl
    have ntl : tl ∉ Z := fun h => wd6.all tl h htl
    have wd8 := wd6.same s7
    have eol8 := s7 _ _ eol6
    have eyl8 := s7 _ _ eyl6
    have sH8 := sH6.trans s7
    refine ⟨tl, rfl, ⟨_, .inl (.inl etl)⟩, ?_⟩
    refine for_it (walk_list (K := K) (a := tl) (xs := ms.map V.int)) (fun i σ G7 => Keep Z G8 G7 ∧ Ti G8 G7 ∧ Wd P w CY Z G7 d0 d1 hl (9 * i) ∧ ∃ y6 y7 y8 y9, σ = [some (.ref a), some (.ref ol), some (.ref yl), y3, y4, some (.ref hl), y6, y7, y8, y9, none, none, none])
      ⟨Keep.refl, Ti.refl _, wd8, none, none, none, none, rfl⟩ (fun i σ G7 _ z => .inl (.inl (z.1.1 _ _ etl ntl))) (fun i x σ G7 G9 hi z y => ?_) (fun σ G7 z => ?_)
    · obtain ⟨k7, t7, wd, y6, y7, y8, y9, rfl⟩ := z
      obtain ⟨rfl, ex⟩ := y
      rw [List.getElem?_map] at ex
      obtain ⟨ce, ece, rfl⟩ := Option.map_eq_some_iff.mp ex
      have hi10 : i < 10 := by rw [List.length_map] at hi; omega
      refine ⟨.int ce, rfl, _, _, rfl, rfl, (by decide : (0 : Int) < 3), rfl, .inr ⟨_, rfl, ?_⟩⟩
      obtain ⟨kk, ekk, hkk⟩ : ∃ kk : Nat, (if decide (V.int (ce % 3) = V.int 0) = true then (1 : Int) else 0) = kk ∧ kk < 2 := by
        by_cases c : ce % 3 = 0
        · exact ⟨1, by rw [if_pos (decide_eq_true (congrArg V.int c))]; rfl, by decide⟩
        · exact ⟨0, by rw [if_neg (by simpa using c)]; rfl, by decide⟩
      rw [show V.int (if decide ((fun i j : Int => V.int (i % j)) ce 3 = V.int 0) = true then (1 : Int) else 0) = V.int (kk : Nat) from congrArg V.int ekk]
      refine ⟨.int ce, rfl, _, _, rfl, rfl, (by decide : (0 : Int) < 3 ∧ _), ?_⟩
      obtain ⟨d, d', fx', wde, ep, eo⟩ := one_side (P := P) (w := w) (CY := CY) fx hkk
      refine ⟨fun σ G10 => Keep Z G8 G10 ∧ Ti G8 G10 ∧ Wd P w CY Z G10 d d' hl (9 * i) ∧ σ = [some (.ref a), some (.ref ol), some (.ref yl), y3, y4, some (.ref hl), some (.int ce), some (.int (kk : Nat)), some (.int (ce / 3)), some (.bl true), none, none, none], ?_, fun σ G10 z => ?_⟩
      · have wd' := (wde _ _).mp wd
        obtain ⟨ln, wy, S, sd⟩ := wd'.s0
        have eyl9 := k7.1 _ _ eyl8 nyl
        have eol9 := k7.1 _ _ eol8 nol
        refine ⟨.int (ce / 3), rfl, _, _, rfl, rfl, (by decide : (0 : Int) < 3), _, _, rfl, rfl, _, rfl, ?_⟩
        by_cases c2 : ce / 3 % 3 < 2
        · refine iteT' (decide_eq_true c2) ⟨.ref yl, rfl, .int (kk : Nat), rfl, yl, _, (kk : Nat), .ref d.p, rfl, rfl, .inl (.inl eyl9), ep, .ref ol, rfl, .int (kk : Nat), rfl, ol, _, (kk : Nat), .ref d.o, rfl, rfl, .inl (.inl eol9), eo, .int (ce / 3), rfl, _, _, rfl, rfl, (by decide : (0 : Int) < 3 ∧ _), Z, d.p, d.l1, d.o, d.lo, ln, wy, S, _, rfl, sd, wd'.ap fx', fun H' S' k t _ sd' => ?_⟩
          exact ⟨k7.trans (k.sub fx'.i0), t7.trans t, wd'.deed fx' k t ⟨_, _, _, sd'⟩, rfl⟩
        · refine iteF' (decide_eq_false c2) ⟨.ref yl, rfl, .int (kk : Nat), rfl, yl, _, (kk : Nat), .ref d.p, rfl, rfl, .inl (.inl eyl9), ep, .ref ol, rfl, .int (kk : Nat), rfl, ol, _, (kk : Nat), .ref d.o, rfl, rfl, .inl (.inl eol9), eo, .int (ce / 3), rfl, _, _, rfl, rfl, (by decide : (0 : Int) < 3 ∧ _), Z, d.p, d.l1, d.o, d.lo, ln, wy, S, _, rfl, sd, wd'.ap fx', fun H' ln' k t _ sd' => ?_⟩
          exact ⟨k7.trans (k.sub fx'.i0), t7.trans t, wd'.deed fx' k t ⟨_, _, _, sd'⟩, rfl⟩
      · obtain ⟨k10, t10, wd10, rfl⟩ := z
        have eyl9 := k10.1 _ _ eyl8 nyl
        have eol9 := k10.1 _ _ eol8 nol
        obtain ⟨ln, wy, S, sd⟩ := wd10.s0
        refine ⟨.bl true, rfl, true, rfl, iteF' rfl ?_⟩
        refine ⟨.ref yl, rfl, .int (kk : Nat), rfl, yl, _, (kk : Nat), .ref d.p, rfl, rfl, .inl (.inl eyl9), ep, .ref ol, rfl, .int (kk : Nat), rfl, ol, _, (kk : Nat), .ref d.o, rfl, rfl, .inl (.inl eol9), eo, .ref hl, rfl, .int (ce / 3), rfl, _, _, rfl, rfl, (by decide : (0 : Int) < 7 ∧ _), Z, d.p, d.l1, d.o, d.lo, ln, wy, S, hl, 9 * i, _, rfl, sd, wd10.held, ⟨fx.ih, wd10.all⟩, fx'.nhl, by omega, fun H' k t h => ⟨true, rfl, iteF' rfl ?_⟩⟩
        have sub : ∀ x ∈ [hl], x ∈ Z := fun x hx => by rw [List.mem_singleton.mp hx]; exact fx.ih
        exact ⟨k10.trans (k.sub sub), t10.trans t, (wde _ _).mpr ((wd10.look fx' k t h).up (by omega)), _, _, _, _, rfl⟩
    obtain ⟨k7, t7, wd, y6, y7, y8, y9, rfl⟩ := z
    rw [List.length_map] at wd
    have wdm := wd.up (by omega : 9 * ms.length ≤ 90)
    refine ⟨2, rfl, by decide, by decide, ?_⟩
    refine for_it (walk_range (lo := 0) (n := (2 : Int).toNat)) (fun i σ G7 => Keep Z G8 G7 ∧ Ti G8 G7 ∧ Wd P w CY Z G7 d0 d1 hl (90 + 7 * i) ∧ ∃ y10 y11, σ = [some (.ref a), some (.ref ol), some (.ref yl), y3, y4, some (.ref hl), y6, y7, y8, y9, y10, y11, none])
      ⟨k7, t7, wdm, none, none, rfl⟩ (fun _ _ _ _ _ => trivial) (fun i x σ G7 G9 hi z y => ?_) (fun σ G7 z => ?_)
    · clear wd wdm k7 t7
      obtain ⟨k7, t7, wd, y10, y11, rfl⟩ := z
      obtain ⟨rfl, rfl⟩ := y
      have hi2 : i < 2 := hi
      obtain ⟨d, d', fx', wde, ep, eo⟩ := one_side (P := P) (w := w) (CY := CY) fx hi2
      have ex : (0 : Int) + (i : Nat) = (i : Nat) := by omega
      refine ⟨7, rfl, by decide, by decide, ?_⟩
      refine for_it (walk_range (lo := 0) (n := (7 : Int).toNat)) (fun j σ G7 => Keep Z G8 G7 ∧ Ti G8 G7 ∧ Wd P w CY Z G7 d d' hl (90 + 7 * i + j) ∧ ∃ y11, σ = [some (.ref a), some (.ref ol), some (.ref yl), y3, y4, some (.ref hl), y6, y7, y8, y9, some (.int (i : Nat)), y11, none])
        ⟨k7, t7, (wde _ _).mp wd, _, by rw [← ex]; rfl⟩ (fun _ _ _ _ _ => trivial) (fun j x σ G10 G11 hj z y => ?_) (fun σ G10 z => ?_)
      · clear wd k7 t7
        obtain ⟨k7, t7, wd, y11, rfl⟩ := z
        obtain ⟨rfl, rfl⟩ := y
        have hj7 : j < 7 := hj
        have eyl9 := k7.1 _ _ eyl8 nyl
        have eol9 := k7.1 _ _ eol8 nol
        obtain ⟨ln, wy, S, sd⟩ := wd.s0
        obtain ⟨⟨sh, g, rf, wo, so, kd, ks, L, hy, ho, oks, hg⟩, ok, few⟩ := sd
        have sHG : Same H G11 := fun x u e => k7.1 _ _ (sH8 _ _ e) (fun hz => by rw [fHZ x hz] at e; cases e)
        obtain ⟨qq, eq, hqq⟩ := seven ((0 + (j : Nat) : Int) + cell ns 19)
        refine ⟨.ref yl, rfl, .int (i : Nat), rfl, yl, _, (i : Nat), .ref d.p, rfl, rfl, .inl (.inl eyl9), ep, .ref ol, rfl, .int (i : Nat), rfl, ol, _, (i : Nat), .ref d.o, rfl, rfl, .inl (.inl eol9), eo, .ref hl, rfl, .int (0 + (j : Nat)), rfl, .ref a, rfl, a, ns, 19, rfl, sHG.seq hA, _, _, rfl, rfl, _, _, rfl, rfl, (by decide : (0 : Int) < 7), ?_⟩
        refine ⟨Z, d.p, d.l1, sh, d.o, d.lo, ln, wy, S, g, rf, _, wo, so, kd, ks, L, hl, 90 + 7 * i + j, qq, by show [V.ref d.p, .ref d.o, .ref hl, .int ((0 + (j : Nat) + cell ns 19) % 7)] = _; rw [eq], hqq, hy, ho, wd.held, ok, few, oks, hg, ⟨fx.ih, wd.all⟩, by omega, fun H' k t h => ⟨true, rfl, iteF' rfl ?_⟩⟩
        have sub : ∀ x ∈ [hl], x ∈ Z := fun x hx => by rw [List.mem_singleton.mp hx]; exact fx.ih
        exact ⟨k7.trans (k.sub sub), t7.trans t, wd.look fx' k t h, _, rfl⟩
      · obtain ⟨k7, t7, wd, y11, rfl⟩ := z
        exact ⟨k7, t7, (wde _ _).mpr wd, _, _, rfl⟩
    obtain ⟨k9, t9, wd9, y10, y11, rfl⟩ := z
    obtain ⟨ps, eps, zps, hps⟩ := wd9.held
    refine ⟨.ref hl, rfl, hl, rfl, ⟨_, .inl (.inl eps)⟩, fun D hD => ?_⟩
    refine lc_it (walk_list (K := K) (a := hl) (xs := ps.map V.ref)) (fun j G' => Same G7 G' ∧ G' D = some (.lst [])) ⟨same_new hD, upd_same⟩ (fun j G' _ z => .inl (.inl (z.1 _ _ eps))) (fun j x G1 G2 hj z y => ?_) (fun G' z => ?_)
    · obtain ⟨rfl, ex⟩ := y
      obtain ⟨u1, eD⟩ := z
      rw [List.getElem?_map] at ex
      obtain ⟨p, ep, rfl⟩ := Option.map_eq_some_iff.mp ex
      obtain ⟨t, c, xs, ds, h1, ⟨h2, _⟩, ⟨h3, _⟩, h4, h5⟩ := hps p (mem_of_some ep)
      have g1 := Ti.of u1 _ _ h1
      have g4 := h4.mono (Ti.of u1)
      refine ⟨rfl, .ref p, rfl, p, _, 0, _, rfl, rfl, g1.sq, at0, .ref p, rfl, p, _, 1, _, rfl, rfl, g1.sq, at1, .list ds, .list ds, .lst (.inl (.inl (u1 _ _ h2))) g4.dp, .lst (.inl (.inl (u1 _ _ h3))) g4.dp, h5, h5, _, rfl, ?_⟩
      rw [SeqAt.eqv_refl _ (SeqAt.canLay_of_shaped h5)]
      exact iteF ⟨u1, eD⟩
    · obtain ⟨u1, eD⟩ := z
      refine ⟨Nat.zero_le _, fun e he => ?_⟩
      have u2 := same_new (o := .lst []) he
      refine ⟨.list [], .list [], .lst (.inl (.inl (u2 _ _ eD))) .nil, .lst (.inl (.inl upd_same)) .nil, by decide +kernel, by decide +kernel, ?_⟩
      exact q _
end
end Slx

set_option Elab.async false
set_option linter.all false
set_option maxRecDepth 100000
set_option maxHeartbeats 4000000
namespace Slx
open PySem PySem.Spec PyProof.Rows L2 Sl
theorem all_mk {l : PySem.W.OpenLaw} {w : World} {K : PySem.W.Frag} {h : Heap} {mg : Str → Option Value} {fa : Addr} (X : K.In h) (G : h.Ns mainGlobals mg) (hfa : mg "law" = some (.ref fa))
    {od0 an0 : Option Addr} {sl0 : Array (Option Value)} {oc0 kV0 dc0 pm0 cd0 ct0 : Value} {f0 : Addr}
    (a0 : PySem.W.nsIn K mainGlobals "is_number" = some (some (.ref f0))) (l0 : K.lookup f0 = some ⟨oc0, od0, .func (PySem.W.fnOf "is_number" "is_number" (defArgs s_isNumber) (defBody s_isNumber) (defScope s_isNumber) .none kV0 dc0 pm0 an0 cd0 ct0), sl0⟩) (c0 : PySem.W.codeIn K cd0 "is_number" = true) (k0 : PySem.W.keepIn K (.ref f0) = true)
    {od1 an1 : Option Addr} {sl1 : Array (Option Value)} {oc1 kV1 dc1 pm1 cd1 ct1 : Value} {f1 : Addr}
    (a1 : PySem.W.nsIn K mainGlobals "is_way" = some (some (.ref f1))) (l1 : K.lookup f1 = some ⟨oc1, od1, .func (PySem.W.fnOf "is_way" "is_way" (defArgs s_isWay) (defBody s_isWay) (defScope s_isWay) .none kV1 dc1 pm1 an1 cd1 ct1), sl1⟩) (c1 : PySem.W.codeIn K cd1 "is_way" = true) (k1 : PySem.W.keepIn K (.ref f1) = true)
    {od2 an2 : Option Addr} {sl2 : Array (Option Value)} {oc2 kV2 dc2 pm2 cd2 ct2 : Value} {f2 : Addr}
    (a2 : PySem.W.nsIn K mainGlobals "need_lane" = some (some (.ref f2))) (l2 : K.lookup f2 = some ⟨oc2, od2, .func (PySem.W.fnOf "need_lane" "need_lane" (defArgs s_needLane) (defBody s_needLane) (defScope s_needLane) .none kV2 dc2 pm2 an2 cd2 ct2), sl2⟩) (c2 : PySem.W.codeIn K cd2 "need_lane" = true) (k2 : PySem.W.keepIn K (.ref f2) = true)
    {od3 an3 : Option Addr} {sl3 : Array (Option Value)} {oc3 kV3 dc3 pm3 cd3 ct3 : Value} {f3 : Addr}
    (a3 : PySem.W.nsIn K mainGlobals "need_ways" = some (some (.ref f3))) (l3 : K.lookup f3 = some ⟨oc3, od3, .func (PySem.W.fnOf "need_ways" "need_ways" (defArgs s_needWays) (defBody s_needWays) (defScope s_needWays) .none kV3 dc3 pm3 an3 cd3 ct3), sl3⟩) (c3 : PySem.W.codeIn K cd3 "need_ways" = true) (k3 : PySem.W.keepIn K (.ref f3) = true)
    {od4 an4 : Option Addr} {sl4 : Array (Option Value)} {oc4 kV4 dc4 pm4 cd4 ct4 : Value} {f4 : Addr}
    (a4 : PySem.W.nsIn K mainGlobals "need_stand" = some (some (.ref f4))) (l4 : K.lookup f4 = some ⟨oc4, od4, .func (PySem.W.fnOf "need_stand" "need_stand" (defArgs s_needStand) (defBody s_needStand) (defScope s_needStand) .none kV4 dc4 pm4 an4 cd4 ct4), sl4⟩) (c4 : PySem.W.codeIn K cd4 "need_stand" = true) (k4 : PySem.W.keepIn K (.ref f4) = true)
    {od5 an5 : Option Addr} {sl5 : Array (Option Value)} {oc5 kV5 dc5 pm5 cd5 ct5 : Value} {f5 : Addr}
    (a5 : PySem.W.nsIn K mainGlobals "need_spots" = some (some (.ref f5))) (l5 : K.lookup f5 = some ⟨oc5, od5, .func (PySem.W.fnOf "need_spots" "need_spots" (defArgs s_needSpots) (defBody s_needSpots) (defScope s_needSpots) .none kV5 dc5 pm5 an5 cd5 ct5), sl5⟩) (c5 : PySem.W.codeIn K cd5 "need_spots" = true) (k5 : PySem.W.keepIn K (.ref f5) = true)
    {od6 an6 : Option Addr} {sl6 : Array (Option Value)} {oc6 kV6 dc6 pm6 cd6 ct6 : Value} {f6 : Addr}
    (a6 : PySem.W.nsIn K mainGlobals "is_spot" = some (some (.ref f6))) (l6 : K.lookup f6 = some ⟨oc6, od6, .func (PySem.W.fnOf "is_spot" "is_spot" (defArgs s_isSpot) (defBody s_isSpot) (defScope s_isSpot) .none kV6 dc6 pm6 an6 cd6 ct6), sl6⟩) (c6 : PySem.W.codeIn K cd6 "is_spot" = true) (k6 : PySem.W.keepIn K (.ref f6) = true)
    {od7 an7 : Option Addr} {sl7 : Array (Option Value)} {oc7 kV7 dc7 pm7 cd7 ct7 : Value} {f7 : Addr}
    (a7 : PySem.W.nsIn K mainGlobals "most_at" = some (some (.ref f7))) (l7 : K.lookup f7 = some ⟨oc7, od7, .func (PySem.W.fnOf "most_at" "most_at" (defArgs s_mostAt) (defBody s_mostAt) (defScope s_mostAt) .none kV7 dc7 pm7 an7 cd7 ct7), sl7⟩) (c7 : PySem.W.codeIn K cd7 "most_at" = true) (k7 : PySem.W.keepIn K (.ref f7) = true)
    {od8 an8 : Option Addr} {sl8 : Array (Option Value)} {oc8 kV8 dc8 pm8 cd8 ct8 : Value} {f8 : Addr}
    (a8 : PySem.W.nsIn K mainGlobals "behind" = some (some (.ref f8))) (l8 : K.lookup f8 = some ⟨oc8, od8, .func (PySem.W.fnOf "behind" "behind" (defArgs s_behind) (defBody s_behind) (defScope s_behind) .none kV8 dc8 pm8 an8 cd8 ct8), sl8⟩) (c8 : PySem.W.codeIn K cd8 "behind" = true) (k8 : PySem.W.keepIn K (.ref f8) = true)
    {od9 an9 : Option Addr} {sl9 : Array (Option Value)} {oc9 kV9 dc9 pm9 cd9 ct9 : Value} {f9 : Addr}
    (a9 : PySem.W.nsIn K mainGlobals "is_move" = some (some (.ref f9))) (l9 : K.lookup f9 = some ⟨oc9, od9, .func (PySem.W.fnOf "is_move" "is_move" (defArgs s_isMove) (defBody s_isMove) (defScope s_isMove) .none kV9 dc9 pm9 an9 cd9 ct9), sl9⟩) (c9 : PySem.W.codeIn K cd9 "is_move" = true) (k9 : PySem.W.keepIn K (.ref f9) = true)
    {od10 an10 : Option Addr} {sl10 : Array (Option Value)} {oc10 kV10 dc10 pm10 cd10 ct10 : Value} {f10 : Addr}
    (a10 : PySem.W.nsIn K mainGlobals "choices" = some (some (.ref f10))) (l10 : K.lookup f10 = some ⟨oc10, od10, .func (PySem.W.fnOf "choices" "choices" (defArgs s_choices) (defBody s_choices) (defScope s_choices) .none kV10 dc10 pm10 an10 cd10 ct10), sl10⟩) (c10 : PySem.W.codeIn K cd10 "choices" = true) (k10 : PySem.W.keepIn K (.ref f10) = true)
    {od11 an11 : Option Addr} {sl11 : Array (Option Value)} {oc11 kV11 dc11 pm11 cd11 ct11 : Value} {f11 : Addr}
    (a11 : PySem.W.nsIn K mainGlobals "tries" = some (some (.ref f11))) (l11 : K.lookup f11 = some ⟨oc11, od11, .func (PySem.W.fnOf "tries" "tries" (defArgs s_tries) (defBody s_tries) (defScope s_tries) .none kV11 dc11 pm11 an11 cd11 ct11), sl11⟩) (c11 : PySem.W.codeIn K cd11 "tries" = true) (k11 : PySem.W.keepIn K (.ref f11) = true)
    {od12 an12 : Option Addr} {sl12 : Array (Option Value)} {oc12 kV12 dc12 pm12 cd12 ct12 : Value} {f12 : Addr}
    (a12 : PySem.W.nsIn K mainGlobals "spot_ahead" = some (some (.ref f12))) (l12 : K.lookup f12 = some ⟨oc12, od12, .func (PySem.W.fnOf "spot_ahead" "spot_ahead" (defArgs s_spotAhead) (defBody s_spotAhead) (defScope s_spotAhead) .none kV12 dc12 pm12 an12 cd12 ct12), sl12⟩) (c12 : PySem.W.codeIn K cd12 "spot_ahead" = true) (k12 : PySem.W.keepIn K (.ref f12) = true)
    {od13 an13 : Option Addr} {sl13 : Array (Option Value)} {oc13 kV13 dc13 pm13 cd13 ct13 : Value} {f13 : Addr}
    (a13 : PySem.W.nsIn K mainGlobals "has_room" = some (some (.ref f13))) (l13 : K.lookup f13 = some ⟨oc13, od13, .func (PySem.W.fnOf "has_room" "has_room" (defArgs s_hasRoom) (defBody s_hasRoom) (defScope s_hasRoom) .none kV13 dc13 pm13 an13 cd13 ct13), sl13⟩) (c13 : PySem.W.codeIn K cd13 "has_room" = true) (k13 : PySem.W.keepIn K (.ref f13) = true)
    {od14 an14 : Option Addr} {sl14 : Array (Option Value)} {oc14 kV14 dc14 pm14 cd14 ct14 : Value} {f14 : Addr}
    (a14 : PySem.W.nsIn K mainGlobals "reached" = some (some (.ref f14))) (l14 : K.lookup f14 = some ⟨oc14, od14, .func (PySem.W.fnOf "reached" "reached" (defArgs s_reached) (defBody s_reached) (defScope s_reached) .none kV14 dc14 pm14 an14 cd14 ct14), sl14⟩) (c14 : PySem.W.codeIn K cd14 "reached" = true) (k14 : PySem.W.keepIn K (.ref f14) = true)
    {od15 an15 : Option Addr} {sl15 : Array (Option Value)} {oc15 kV15 dc15 pm15 cd15 ct15 : Value} {f15 : Addr}
    (a15 : PySem.W.nsIn K mainGlobals "least_row" = some (some (.ref f15))) (l15 : K.lookup f15 = some ⟨oc15, od15, .func (PySem.W.fnOf "least_row" "least_row" (defArgs s_leastRow) (defBody s_leastRow) (defScope s_leastRow) .none kV15 dc15 pm15 an15 cd15 ct15), sl15⟩) (c15 : PySem.W.codeIn K cd15 "least_row" = true) (k15 : PySem.W.keepIn K (.ref f15) = true)
    {od16 an16 : Option Addr} {sl16 : Array (Option Value)} {oc16 kV16 dc16 pm16 cd16 ct16 : Value} {f16 : Addr}
    (a16 : PySem.W.nsIn K mainGlobals "closed" = some (some (.ref f16))) (l16 : K.lookup f16 = some ⟨oc16, od16, .func (PySem.W.fnOf "closed" "closed" (defArgs s_closed) (defBody s_closed) (defScope s_closed) .none kV16 dc16 pm16 an16 cd16 ct16), sl16⟩) (c16 : PySem.W.codeIn K cd16 "closed" = true) (k16 : PySem.W.keepIn K (.ref f16) = true)
    {od17 an17 : Option Addr} {sl17 : Array (Option Value)} {oc17 kV17 dc17 pm17 cd17 ct17 : Value} {f17 : Addr}
    (a17 : PySem.W.nsIn K mainGlobals "all_out" = some (some (.ref f17))) (l17 : K.lookup f17 = some ⟨oc17, od17, .func (PySem.W.fnOf "all_out" "all_out" (defArgs s_allOut) (defBody s_allOut) (defScope s_allOut) .none kV17 dc17 pm17 an17 cd17 ct17), sl17⟩) (c17 : PySem.W.codeIn K cd17 "all_out" = true) (k17 : PySem.W.keepIn K (.ref f17) = true)
    {od18 an18 : Option Addr} {sl18 : Array (Option Value)} {oc18 kV18 dc18 pm18 cd18 ct18 : Value} {f18 : Addr}
    (a18 : PySem.W.nsIn K mainGlobals "all_tracks" = some (some (.ref f18))) (l18 : K.lookup f18 = some ⟨oc18, od18, .func (PySem.W.fnOf "all_tracks" "all_tracks" (defArgs s_allTracks) (defBody s_allTracks) (defScope s_allTracks) .none kV18 dc18 pm18 an18 cd18 ct18), sl18⟩) (c18 : PySem.W.codeIn K cd18 "all_tracks" = true) (k18 : PySem.W.keepIn K (.ref f18) = true)
    {od19 an19 : Option Addr} {sl19 : Array (Option Value)} {oc19 kV19 dc19 pm19 cd19 ct19 : Value} {f19 : Addr}
    (a19 : PySem.W.nsIn K mainGlobals "tracks_from" = some (some (.ref f19))) (l19 : K.lookup f19 = some ⟨oc19, od19, .func (PySem.W.fnOf "tracks_from" "tracks_from" (defArgs s_tracksFrom) (defBody s_tracksFrom) (defScope s_tracksFrom) .none kV19 dc19 pm19 an19 cd19 ct19), sl19⟩) (c19 : PySem.W.codeIn K cd19 "tracks_from" = true) (k19 : PySem.W.keepIn K (.ref f19) = true)
    {od20 an20 : Option Addr} {sl20 : Array (Option Value)} {oc20 kV20 dc20 pm20 cd20 ct20 : Value} {f20 : Addr}
    (a20 : PySem.W.nsIn K mainGlobals "steps" = some (some (.ref f20))) (l20 : K.lookup f20 = some ⟨oc20, od20, .func (PySem.W.fnOf "steps" "steps" (defArgs s_steps) (defBody s_steps) (defScope s_steps) .none kV20 dc20 pm20 an20 cd20 ct20), sl20⟩) (c20 : PySem.W.codeIn K cd20 "steps" = true) (k20 : PySem.W.keepIn K (.ref f20) = true)
    {od21 an21 : Option Addr} {sl21 : Array (Option Value)} {oc21 kV21 dc21 pm21 cd21 ct21 : Value} {f21 : Addr}
    (a21 : PySem.W.nsIn K mainGlobals "searched" = some (some (.ref f21))) (l21 : K.lookup f21 = some ⟨oc21, od21, .func (PySem.W.fnOf "searched" "searched" (defArgs s_searched) (defBody s_searched) (defScope s_searched) .none kV21 dc21 pm21 an21 cd21 ct21), sl21⟩) (c21 : PySem.W.codeIn K cd21 "searched" = true) (k21 : PySem.W.keepIn K (.ref f21) = true)
    {od22 an22 : Option Addr} {sl22 : Array (Option Value)} {oc22 kV22 dc22 pm22 cd22 ct22 : Value} {f22 : Addr}
    (a22 : PySem.W.nsIn K mainGlobals "_law_cell_at" = some (some (.ref f22))) (l22 : K.lookup f22 = some ⟨oc22, od22, .func (PySem.W.fnOf "_law_cell_at" "_law_cell_at" (defArgs s_lCellAt) (defBody s_lCellAt) (defScope s_lCellAt) .none kV22 dc22 pm22 an22 cd22 ct22), sl22⟩) (c22 : PySem.W.codeIn K cd22 "_law_cell_at" = true) (k22 : PySem.W.keepIn K (.ref f22) = true)
    {od23 an23 : Option Addr} {sl23 : Array (Option Value)} {oc23 kV23 dc23 pm23 cd23 ct23 : Value} {f23 : Addr}
    (a23 : PySem.W.nsIn K mainGlobals "_law_whole" = some (some (.ref f23))) (l23 : K.lookup f23 = some ⟨oc23, od23, .func (PySem.W.fnOf "_law_whole" "_law_whole" (defArgs s_lWhole) (defBody s_lWhole) (defScope s_lWhole) .none kV23 dc23 pm23 an23 cd23 ct23), sl23⟩) (c23 : PySem.W.codeIn K cd23 "_law_whole" = true) (k23 : PySem.W.keepIn K (.ref f23) = true)
    {od24 an24 : Option Addr} {sl24 : Array (Option Value)} {oc24 kV24 dc24 pm24 cd24 ct24 : Value} {f24 : Addr}
    (a24 : PySem.W.nsIn K mainGlobals "_law_mixed" = some (some (.ref f24))) (l24 : K.lookup f24 = some ⟨oc24, od24, .func (PySem.W.fnOf "_law_mixed" "_law_mixed" (defArgs s_lMixed) (defBody s_lMixed) (defScope s_lMixed) .none kV24 dc24 pm24 an24 cd24 ct24), sl24⟩) (c24 : PySem.W.codeIn K cd24 "_law_mixed" = true) (k24 : PySem.W.keepIn K (.ref f24) = true)
    {od25 an25 : Option Addr} {sl25 : Array (Option Value)} {oc25 kV25 dc25 pm25 cd25 ct25 : Value} {f25 : Addr}
    (a25 : PySem.W.nsIn K mainGlobals "_law_spot" = some (some (.ref f25))) (l25 : K.lookup f25 = some ⟨oc25, od25, .func (PySem.W.fnOf "_law_spot" "_law_spot" (defArgs s_lSpot) (defBody s_lSpot) (defScope s_lSpot) .none kV25 dc25 pm25 an25 cd25 ct25), sl25⟩) (c25 : PySem.W.codeIn K cd25 "_law_spot" = true) (k25 : PySem.W.keepIn K (.ref f25) = true)
    {od26 an26 : Option Addr} {sl26 : Array (Option Value)} {oc26 kV26 dc26 pm26 cd26 ct26 : Value} {f26 : Addr}
    (a26 : PySem.W.nsIn K mainGlobals "_law_built" = some (some (.ref f26))) (l26 : K.lookup f26 = some ⟨oc26, od26, .func (PySem.W.fnOf "_law_built" "_law_built" (defArgs s_lBuilt) (defBody s_lBuilt) (defScope s_lBuilt) .none kV26 dc26 pm26 an26 cd26 ct26), sl26⟩) (c26 : PySem.W.codeIn K cd26 "_law_built" = true) (k26 : PySem.W.keepIn K (.ref f26) = true)
    {od27 an27 : Option Addr} {sl27 : Array (Option Value)} {oc27 kV27 dc27 pm27 cd27 ct27 : Value} {f27 : Addr}
    (a27 : PySem.W.nsIn K mainGlobals "_law_on" = some (some (.ref f27))) (l27 : K.lookup f27 = some ⟨oc27, od27, .func (PySem.W.fnOf "_law_on" "_law_on" (defArgs s_lOn) (defBody s_lOn) (defScope s_lOn) .none kV27 dc27 pm27 an27 cd27 ct27), sl27⟩) (c27 : PySem.W.codeIn K cd27 "_law_on" = true) (k27 : PySem.W.keepIn K (.ref f27) = true)
    {od28 an28 : Option Addr} {sl28 : Array (Option Value)} {oc28 kV28 dc28 pm28 cd28 ct28 : Value} {f28 : Addr}
    (a28 : PySem.W.nsIn K mainGlobals "_law_moves" = some (some (.ref f28))) (l28 : K.lookup f28 = some ⟨oc28, od28, .func (PySem.W.fnOf "_law_moves" "_law_moves" (defArgs s_lMoves) (defBody s_lMoves) (defScope s_lMoves) .none kV28 dc28 pm28 an28 cd28 ct28), sl28⟩) (c28 : PySem.W.codeIn K cd28 "_law_moves" = true) (k28 : PySem.W.keepIn K (.ref f28) = true)
    {od29 an29 : Option Addr} {sl29 : Array (Option Value)} {oc29 kV29 dc29 pm29 cd29 ct29 : Value} {f29 : Addr}
    (a29 : PySem.W.nsIn K mainGlobals "_law_left" = some (some (.ref f29))) (l29 : K.lookup f29 = some ⟨oc29, od29, .func (PySem.W.fnOf "_law_left" "_law_left" (defArgs s_lLeft) (defBody s_lLeft) (defScope s_lLeft) .none kV29 dc29 pm29 an29 cd29 ct29), sl29⟩) (c29 : PySem.W.codeIn K cd29 "_law_left" = true) (k29 : PySem.W.keepIn K (.ref f29) = true)
    {od30 an30 : Option Addr} {sl30 : Array (Option Value)} {oc30 kV30 dc30 pm30 cd30 ct30 : Value} {f30 : Addr}
    (a30 : PySem.W.nsIn K mainGlobals "_law_known" = some (some (.ref f30))) (l30 : K.lookup f30 = some ⟨oc30, od30, .func (PySem.W.fnOf "_law_known" "_law_known" (defArgs s_lKnown) (defBody s_lKnown) (defScope s_lKnown) .none kV30 dc30 pm30 an30 cd30 ct30), sl30⟩) (c30 : PySem.W.codeIn K cd30 "_law_known" = true) (k30 : PySem.W.keepIn K (.ref f30) = true)
    {od31 an31 : Option Addr} {sl31 : Array (Option Value)} {oc31 kV31 dc31 pm31 cd31 ct31 : Value} {f31 : Addr}
    (a31 : PySem.W.nsIn K mainGlobals "_law_kind" = some (some (.ref f31))) (l31 : K.lookup f31 = some ⟨oc31, od31, .func (PySem.W.fnOf "_law_kind" "_law_kind" (defArgs s_lKind) (defBody s_lKind) (defScope s_lKind) .none kV31 dc31 pm31 an31 cd31 ct31), sl31⟩) (c31 : PySem.W.codeIn K cd31 "_law_kind" = true) (k31 : PySem.W.keepIn K (.ref f31) = true)
    {od32 an32 : Option Addr} {sl32 : Array (Option Value)} {oc32 kV32 dc32 pm32 cd32 ct32 : Value} {f32 : Addr}
    (a32 : PySem.W.nsIn K mainGlobals "_law_tried" = some (some (.ref f32))) (l32 : K.lookup f32 = some ⟨oc32, od32, .func (PySem.W.fnOf "_law_tried" "_law_tried" (defArgs s_lTried) (defBody s_lTried) (defScope s_lTried) .none kV32 dc32 pm32 an32 cd32 ct32), sl32⟩) (c32 : PySem.W.codeIn K cd32 "_law_tried" = true) (k32 : PySem.W.keepIn K (.ref f32) = true)
    {od33 an33 : Option Addr} {sl33 : Array (Option Value)} {oc33 kV33 dc33 pm33 cd33 ct33 : Value} {f33 : Addr}
    (a33 : PySem.W.nsIn K mainGlobals "_law_is_row" = some (some (.ref f33))) (l33 : K.lookup f33 = some ⟨oc33, od33, .func (PySem.W.fnOf "_law_is_row" "_law_is_row" (defArgs s_lIsRow) (defBody s_lIsRow) (defScope s_lIsRow) .none kV33 dc33 pm33 an33 cd33 ct33), sl33⟩) (c33 : PySem.W.codeIn K cd33 "_law_is_row" = true) (k33 : PySem.W.keepIn K (.ref f33) = true)
    {od34 an34 : Option Addr} {sl34 : Array (Option Value)} {oc34 kV34 dc34 pm34 cd34 ct34 : Value} {f34 : Addr}
    (a34 : PySem.W.nsIn K mainGlobals "_law_is_closed" = some (some (.ref f34))) (l34 : K.lookup f34 = some ⟨oc34, od34, .func (PySem.W.fnOf "_law_is_closed" "_law_is_closed" (defArgs s_lIsClosed) (defBody s_lIsClosed) (defScope s_lIsClosed) .none kV34 dc34 pm34 an34 cd34 ct34), sl34⟩) (c34 : PySem.W.codeIn K cd34 "_law_is_closed" = true) (k34 : PySem.W.keepIn K (.ref f34) = true)
    {od35 an35 : Option Addr} {sl35 : Array (Option Value)} {oc35 kV35 dc35 pm35 cd35 ct35 : Value} {f35 : Addr}
    (a35 : PySem.W.nsIn K mainGlobals "_law_changed" = some (some (.ref f35))) (l35 : K.lookup f35 = some ⟨oc35, od35, .func (PySem.W.fnOf "_law_changed" "_law_changed" (defArgs s_lChanged) (defBody s_lChanged) (defScope s_lChanged) .none kV35 dc35 pm35 an35 cd35 ct35), sl35⟩) (c35 : PySem.W.codeIn K cd35 "_law_changed" = true) (k35 : PySem.W.keepIn K (.ref f35) = true)
    {od36 an36 : Option Addr} {sl36 : Array (Option Value)} {oc36 kV36 dc36 pm36 cd36 ct36 : Value} {f36 : Addr}
    (a36 : PySem.W.nsIn K mainGlobals "_law_answer" = some (some (.ref f36))) (l36 : K.lookup f36 = some ⟨oc36, od36, .func (PySem.W.fnOf "_law_answer" "_law_answer" (defArgs s_lAnswer) (defBody s_lAnswer) (defScope s_lAnswer) .none kV36 dc36 pm36 an36 cd36 ct36), sl36⟩) (c36 : PySem.W.codeIn K cd36 "_law_answer" = true) (k36 : PySem.W.keepIn K (.ref f36) = true)
    {od37 an37 : Option Addr} {sl37 : Array (Option Value)} {oc37 kV37 dc37 pm37 cd37 ct37 : Value} {f37 : Addr}
    (a37 : PySem.W.nsIn K mainGlobals "_law_looked" = some (some (.ref f37))) (l37 : K.lookup f37 = some ⟨oc37, od37, .func (PySem.W.fnOf "_law_looked" "_law_looked" (defArgs s_lLooked) (defBody s_lLooked) (defScope s_lLooked) .none kV37 dc37 pm37 an37 cd37 ct37), sl37⟩) (c37 : PySem.W.codeIn K cd37 "_law_looked" = true) (k37 : PySem.W.keepIn K (.ref f37) = true)
    {od38 an38 : Option Addr} {sl38 : Array (Option Value)} {oc38 kV38 dc38 pm38 cd38 ct38 : Value} {f38 : Addr}
    (a38 : PySem.W.nsIn K mainGlobals "_law_renewed" = some (some (.ref f38))) (l38 : K.lookup f38 = some ⟨oc38, od38, .func (PySem.W.fnOf "_law_renewed" "_law_renewed" (defArgs s_lRenewed) (defBody s_lRenewed) (defScope s_lRenewed) .none kV38 dc38 pm38 an38 cd38 ct38), sl38⟩) (c38 : PySem.W.codeIn K cd38 "_law_renewed" = true) (k38 : PySem.W.keepIn K (.ref f38) = true)
    {od39 an39 : Option Addr} {sl39 : Array (Option Value)} {oc39 kV39 dc39 pm39 cd39 ct39 : Value} {f39 : Addr}
    (a39 : PySem.W.nsIn K mainGlobals "_law_moved" = some (some (.ref f39))) (l39 : K.lookup f39 = some ⟨oc39, od39, .func (PySem.W.fnOf "_law_moved" "_law_moved" (defArgs s_lMoved) (defBody s_lMoved) (defScope s_lMoved) .none kV39 dc39 pm39 an39 cd39 ct39), sl39⟩) (c39 : PySem.W.codeIn K cd39 "_law_moved" = true) (k39 : PySem.W.keepIn K (.ref f39) = true)
    {od40 an40 : Option Addr} {sl40 : Array (Option Value)} {oc40 kV40 dc40 pm40 cd40 ct40 : Value} {f40 : Addr}
    (a40 : PySem.W.nsIn K mainGlobals "_law_longer" = some (some (.ref f40))) (l40 : K.lookup f40 = some ⟨oc40, od40, .func (PySem.W.fnOf "_law_longer" "_law_longer" (defArgs s_lLonger) (defBody s_lLonger) (defScope s_lLonger) .none kV40 dc40 pm40 an40 cd40 ct40), sl40⟩) (c40 : PySem.W.codeIn K cd40 "_law_longer" = true) (k40 : PySem.W.keepIn K (.ref f40) = true)
    {od41 an41 : Option Addr} {sl41 : Array (Option Value)} {oc41 kV41 dc41 pm41 cd41 ct41 : Value} {f41 : Addr}
    (a41 : PySem.W.nsIn K mainGlobals "_law_own" = some (some (.ref f41))) (l41 : K.lookup f41 = some ⟨oc41, od41, .func (PySem.W.fnOf "_law_own" "_law_own" (defArgs s_lOwn) (defBody s_lOwn) (defScope s_lOwn) .none kV41 dc41 pm41 an41 cd41 ct41), sl41⟩) (c41 : PySem.W.codeIn K cd41 "_law_own" = true) (k41 : PySem.W.keepIn K (.ref f41) = true)
    {od42 an42 : Option Addr} {sl42 : Array (Option Value)} {oc42 kV42 dc42 pm42 cd42 ct42 : Value} {f42 : Addr}
    (a42 : PySem.W.nsIn K mainGlobals "law" = some (some (.ref f42))) (l42 : K.lookup f42 = some ⟨oc42, od42, .func (PySem.W.fnOf "law" "law" (defArgs s_law) (defBody s_law) (defScope s_law) .none kV42 dc42 pm42 an42 cd42 ct42), sl42⟩) (c42 : PySem.W.codeIn K cd42 "law" = true) (k42 : PySem.W.keepIn K (.ref f42) = true)
    (z_ValueError : PySem.W.nsIn K mainGlobals "ValueError" = some none)
    (z_all : PySem.W.nsIn K mainGlobals "all" = some none)
    (z_any : PySem.W.nsIn K mainGlobals "any" = some none)
    (z_bool : PySem.W.nsIn K mainGlobals "bool" = some none)
    (z_dict : PySem.W.nsIn K mainGlobals "dict" = some none)
    (z_enumerate : PySem.W.nsIn K mainGlobals "enumerate" = some none)
    (z_int : PySem.W.nsIn K mainGlobals "int" = some none)
    (z_isinstance : PySem.W.nsIn K mainGlobals "isinstance" = some none)
    (z_len : PySem.W.nsIn K mainGlobals "len" = some none)
    (z_list : PySem.W.nsIn K mainGlobals "list" = some none)
    (z_min : PySem.W.nsIn K mainGlobals "min" = some none)
    (z_range : PySem.W.nsIn K mainGlobals "range" = some none)
    (z_sorted : PySem.W.nsIn K mainGlobals "sorted" = some none)
    (z_str : PySem.W.nsIn K mainGlobals "str" = some none)
    (z_tuple : PySem.W.nsIn K mainGlobals "tuple" = some none)
    (z_type : PySem.W.nsIn K mainGlobals "type" = some none)
    {t_MOST_PLACES : Tok} (i_MOST_PLACES : PySem.W.nsIn K mainGlobals "MOST_PLACES" = some (some (.int 8 t_MOST_PLACES)))
    {t_MOST_HELD : Tok} (i_MOST_HELD : PySem.W.nsIn K mainGlobals "MOST_HELD" = some (some (.int 4 t_MOST_HELD)))
    {t_MOST_TRAINS : Tok} (i_MOST_TRAINS : PySem.W.nsIn K mainGlobals "MOST_TRAINS" = some (some (.int 6 t_MOST_TRAINS)))
    (q_closedSearch : PySem.W.nsIn K mainGlobals "closed_search" = some (some (.ref f16)))
    {Cy : Addr}
    (yC : PySem.W.nsIn K mainGlobals "Yard" = some (some (.ref Cy)))
    (ypg : PySem.W.plainGet K Cy Str.empty = true)
    (yhd : PySem.W.hasDictIn K Cy = true)
    (ypo : PySem.W.plainOver K Cy = true)
    (ysa : PySem.W.findIn K (.ref Cy) "__setattr__" = some (some (.builtin "object.__setattr__")))
    (ymk : PySem.W.makesIn K Cy = true)
    (ykc : PySem.W.keepIn K (.ref Cy) = true)
    (yn_lane : PySem.W.findIn K (.ref Cy) "_lane" = some none)
    (yn_shorter : PySem.W.findIn K (.ref Cy) "_shorter" = some none)
    (yn_stand : PySem.W.findIn K (.ref Cy) "_stand" = some none)
    (yn_ways : PySem.W.findIn K (.ref Cy) "_ways" = some none)
    {yod0 yan0 : Option Addr} {ysl0 : Array (Option Value)} {yoc0 ykV0 ydc0 ypm0 ycd0 yct0 : Value} {yf0 : Addr}
    (ya0 : PySem.W.findIn K (.ref Cy) "__init__" = some (some (.ref yf0)))
    (yi0 : PySem.W.isFn K (.ref yf0) = true)
    (yl0 : K.lookup yf0 = some ⟨yoc0, yod0, .func (PySem.W.fnOf "__init__" "Yard.__init__" (defArgs s_yInit) (defBody s_yInit) (defScope s_yInit) .none ykV0 ydc0 ypm0 yan0 ycd0 yct0), ysl0⟩)
    (yc0 : PySem.W.codeIn K ycd0 "Yard.__init__" = true)
    (yk0 : PySem.W.keepIn K (.ref yf0) = true)
    {yod1 yan1 : Option Addr} {ysl1 : Array (Option Value)} {yoc1 ykV1 ydc1 ypm1 ycd1 yct1 : Value} {yf1 : Addr}
    (ya1 : PySem.W.findIn K (.ref Cy) "lane" = some (some (.ref yf1)))
    (yi1 : PySem.W.isFn K (.ref yf1) = true)
    (yl1 : K.lookup yf1 = some ⟨yoc1, yod1, .func (PySem.W.fnOf "lane" "Yard.lane" (defArgs s_yLane) (defBody s_yLane) (defScope s_yLane) .none ykV1 ydc1 ypm1 yan1 ycd1 yct1), ysl1⟩)
    (yc1 : PySem.W.codeIn K ycd1 "Yard.lane" = true)
    (yk1 : PySem.W.keepIn K (.ref yf1) = true)
    {yod2 yan2 : Option Addr} {ysl2 : Array (Option Value)} {yoc2 ykV2 ydc2 ypm2 ycd2 yct2 : Value} {yf2 : Addr}
    (ya2 : PySem.W.findIn K (.ref Cy) "ways" = some (some (.ref yf2)))
    (yi2 : PySem.W.isFn K (.ref yf2) = true)
    (yl2 : K.lookup yf2 = some ⟨yoc2, yod2, .func (PySem.W.fnOf "ways" "Yard.ways" (defArgs s_yWays) (defBody s_yWays) (defScope s_yWays) .none ykV2 ydc2 ypm2 yan2 ycd2 yct2), ysl2⟩)
    (yc2 : PySem.W.codeIn K ycd2 "Yard.ways" = true)
    (yk2 : PySem.W.keepIn K (.ref yf2) = true)
    {yod3 yan3 : Option Addr} {ysl3 : Array (Option Value)} {yoc3 ykV3 ydc3 ypm3 ycd3 yct3 : Value} {yf3 : Addr}
    (ya3 : PySem.W.findIn K (.ref Cy) "stand" = some (some (.ref yf3)))
    (yi3 : PySem.W.isFn K (.ref yf3) = true)
    (yl3 : K.lookup yf3 = some ⟨yoc3, yod3, .func (PySem.W.fnOf "stand" "Yard.stand" (defArgs s_yStand) (defBody s_yStand) (defScope s_yStand) .none ykV3 ydc3 ypm3 yan3 ycd3 yct3), ysl3⟩)
    (yc3 : PySem.W.codeIn K ycd3 "Yard.stand" = true)
    (yk3 : PySem.W.keepIn K (.ref yf3) = true)
    {yod4 yan4 : Option Addr} {ysl4 : Array (Option Value)} {yoc4 ykV4 ydc4 ypm4 ycd4 yct4 : Value} {yf4 : Addr}
    (ya4 : PySem.W.findIn K (.ref Cy) "do" = some (some (.ref yf4)))
    (yi4 : PySem.W.isFn K (.ref yf4) = true)
    (yl4 : K.lookup yf4 = some ⟨yoc4, yod4, .func (PySem.W.fnOf "do" "Yard.do" (defArgs s_yDo) (defBody s_yDo) (defScope s_yDo) .none ykV4 ydc4 ypm4 yan4 ycd4 yct4), ysl4⟩)
    (yc4 : PySem.W.codeIn K ycd4 "Yard.do" = true)
    (yk4 : PySem.W.keepIn K (.ref yf4) = true)
    {yod5 yan5 : Option Addr} {ysl5 : Array (Option Value)} {yoc5 ykV5 ydc5 ypm5 ycd5 yct5 : Value} {yf5 : Addr}
    (ya5 : PySem.W.findIn K (.ref Cy) "longer" = some (some (.ref yf5)))
    (yi5 : PySem.W.isFn K (.ref yf5) = true)
    (yl5 : K.lookup yf5 = some ⟨yoc5, yod5, .func (PySem.W.fnOf "longer" "Yard.longer" (defArgs s_yLonger) (defBody s_yLonger) (defScope s_yLonger) .none ykV5 ydc5 ypm5 yan5 ycd5 yct5), ysl5⟩)
    (yc5 : PySem.W.codeIn K ycd5 "Yard.longer" = true)
    (yk5 : PySem.W.keepIn K (.ref yf5) = true)
    {yod6 yan6 : Option Addr} {ysl6 : Array (Option Value)} {yoc6 ykV6 ydc6 ypm6 ycd6 yct6 : Value} {yf6 : Addr}
    (ya6 : PySem.W.findIn K (.ref Cy) "price" = some (some (.ref yf6)))
    (yi6 : PySem.W.isFn K (.ref yf6) = true)
    (yl6 : K.lookup yf6 = some ⟨yoc6, yod6, .func (PySem.W.fnOf "price" "Yard.price" (defArgs s_yPrice) (defBody s_yPrice) (defScope s_yPrice) .none ykV6 ydc6 ypm6 yan6 ycd6 yct6), ysl6⟩)
    (yc6 : PySem.W.codeIn K ycd6 "Yard.price" = true)
    (yk6 : PySem.W.keepIn K (.ref yf6) = true)
    {yod7 yan7 : Option Addr} {ysl7 : Array (Option Value)} {yoc7 ykV7 ydc7 ypm7 ycd7 yct7 : Value} {yf7 : Addr}
    (ya7 : PySem.W.findIn K (.ref Cy) "row" = some (some (.ref yf7)))
    (yi7 : PySem.W.isFn K (.ref yf7) = true)
    (yl7 : K.lookup yf7 = some ⟨yoc7, yod7, .func (PySem.W.fnOf "row" "Yard.row" (defArgs s_yRow) (defBody s_yRow) (defScope s_yRow) .none ykV7 ydc7 ypm7 yan7 ycd7 yct7), ysl7⟩)
    (yc7 : PySem.W.codeIn K ycd7 "Yard.row" = true)
    (yk7 : PySem.W.keepIn K (.ref yf7) = true)
    {yod8 yan8 : Option Addr} {ysl8 : Array (Option Value)} {yoc8 ykV8 ydc8 ypm8 ycd8 yct8 : Value} {yf8 : Addr}
    (ya8 : PySem.W.findIn K (.ref Cy) "closed" = some (some (.ref yf8)))
    (yi8 : PySem.W.isFn K (.ref yf8) = true)
    (yl8 : K.lookup yf8 = some ⟨yoc8, yod8, .func (PySem.W.fnOf "closed" "Yard.closed" (defArgs s_yClosed) (defBody s_yClosed) (defScope s_yClosed) .none ykV8 ydc8 ypm8 yan8 ycd8 yct8), ysl8⟩)
    (yc8 : PySem.W.codeIn K ycd8 "Yard.closed" = true)
    (yk8 : PySem.W.keepIn K (.ref yf8) = true)
    {yod9 yan9 : Option Addr} {ysl9 : Array (Option Value)} {yoc9 ykV9 ydc9 ypm9 ycd9 yct9 : Value} {yf9 : Addr}
    (ya9 : PySem.W.findIn K (.ref Cy) "gained" = some (some (.ref yf9)))
    (yi9 : PySem.W.isFn K (.ref yf9) = true)
    (yl9 : K.lookup yf9 = some ⟨yoc9, yod9, .func (PySem.W.fnOf "gained" "Yard.gained" (defArgs s_yGained) (defBody s_yGained) (defScope s_yGained) .none ykV9 ydc9 ypm9 yan9 ycd9 yct9), ysl9⟩)
    (yc9 : PySem.W.codeIn K ycd9 "Yard.gained" = true)
    (yk9 : PySem.W.keepIn K (.ref yf9) = true)
    {yod10 yan10 : Option Addr} {ysl10 : Array (Option Value)} {yoc10 ykV10 ydc10 ypm10 ycd10 yct10 : Value} {yf10 : Addr}
    (ya10 : PySem.W.findIn K (.ref Cy) "_many_reached" = some (some (.ref yf10)))
    (yi10 : PySem.W.isFn K (.ref yf10) = true)
    (yl10 : K.lookup yf10 = some ⟨yoc10, yod10, .func (PySem.W.fnOf "_many_reached" "Yard._many_reached" (defArgs s_yManyReached) (defBody s_yManyReached) (defScope s_yManyReached) .none ykV10 ydc10 ypm10 yan10 ycd10 yct10), ysl10⟩)
    (yc10 : PySem.W.codeIn K ycd10 "Yard._many_reached" = true)
    (yk10 : PySem.W.keepIn K (.ref yf10) = true)
    {eLaneError eBadLane eBadWays eBadStand eNoMove eNoPlace : Addr}
    (eaL : PySem.W.nsIn K mainGlobals "LaneError" = some (some (.ref eLaneError)))
    (ehL : PySem.W.hasDictIn K eLaneError = true)
    (etL : PySem.W.typeIn K (.ref eLaneError) = some (.type "type"))
    (ebL : PySem.W.subIn K (.ref eLaneError) (.type "BaseException") = some true)
    (ehn : PySem.W.specialIn K (.builtin "object.__class__") "__get__" = some (some (.builtin "getset_descriptor.__get__")))
    (eht : PySem.W.takesIn K (.builtin "object.__class__") = some true)
    (eaBadLane : PySem.W.nsIn K mainGlobals "BadLane" = some (some (.ref eBadLane)))
    (eeBadLane : PySem.W.excIn K eBadLane [.type "ValueError", .type "Exception", .type "BaseException", .type "object"] "ValueError.__new__" = true)
    (ekBadLane : PySem.W.keepIn K (.ref eBadLane) = true)
    (ebBadLane : PySem.W.subIn K (.ref eBadLane) (.type "BaseException") = some true)
    (etBadLane : PySem.W.typeIn K (.ref eBadLane) = some (.type "type"))
    (elBadLane : PySem.W.subIn K (.ref eBadLane) (.ref eLaneError) = some true)
    (evBadLane : PySem.W.subIn K (.ref eBadLane) (.type "ValueError") = some true)
    (esBadLane : PySem.W.subIn K (.ref eBadLane) (.ref eBadLane) = some true)
    (egBadLane : PySem.W.findIn K (.ref eBadLane) "__getattribute__" = some (some (.builtin "BaseException.__getattribute__")))
    (ejBadLane : PySem.W.findIn K (.ref eBadLane) "__getattr__" = some none)
    (edBadLane : PySem.W.hasDictIn K eBadLane = true)
    (ecBadLane : PySem.W.findIn K (.ref eBadLane) "__class__" = some (some (.builtin "object.__class__")))
    (emBadLane : PySem.W.mroIn K eBadLane (.type "object") = some true)
    (eaBadWays : PySem.W.nsIn K mainGlobals "BadWays" = some (some (.ref eBadWays)))
    (eeBadWays : PySem.W.excIn K eBadWays [.type "ValueError", .type "Exception", .type "BaseException", .type "object"] "ValueError.__new__" = true)
    (ekBadWays : PySem.W.keepIn K (.ref eBadWays) = true)
    (ebBadWays : PySem.W.subIn K (.ref eBadWays) (.type "BaseException") = some true)
    (etBadWays : PySem.W.typeIn K (.ref eBadWays) = some (.type "type"))
    (elBadWays : PySem.W.subIn K (.ref eBadWays) (.ref eLaneError) = some true)
    (evBadWays : PySem.W.subIn K (.ref eBadWays) (.type "ValueError") = some true)
    (esBadWays : PySem.W.subIn K (.ref eBadWays) (.ref eBadWays) = some true)
    (egBadWays : PySem.W.findIn K (.ref eBadWays) "__getattribute__" = some (some (.builtin "BaseException.__getattribute__")))
    (ejBadWays : PySem.W.findIn K (.ref eBadWays) "__getattr__" = some none)
    (edBadWays : PySem.W.hasDictIn K eBadWays = true)
    (ecBadWays : PySem.W.findIn K (.ref eBadWays) "__class__" = some (some (.builtin "object.__class__")))
    (emBadWays : PySem.W.mroIn K eBadWays (.type "object") = some true)
    (eaBadStand : PySem.W.nsIn K mainGlobals "BadStand" = some (some (.ref eBadStand)))
    (eeBadStand : PySem.W.excIn K eBadStand [.type "ValueError", .type "Exception", .type "BaseException", .type "object"] "ValueError.__new__" = true)
    (ekBadStand : PySem.W.keepIn K (.ref eBadStand) = true)
    (ebBadStand : PySem.W.subIn K (.ref eBadStand) (.type "BaseException") = some true)
    (etBadStand : PySem.W.typeIn K (.ref eBadStand) = some (.type "type"))
    (elBadStand : PySem.W.subIn K (.ref eBadStand) (.ref eLaneError) = some true)
    (evBadStand : PySem.W.subIn K (.ref eBadStand) (.type "ValueError") = some true)
    (esBadStand : PySem.W.subIn K (.ref eBadStand) (.ref eBadStand) = some true)
    (egBadStand : PySem.W.findIn K (.ref eBadStand) "__getattribute__" = some (some (.builtin "BaseException.__getattribute__")))
    (ejBadStand : PySem.W.findIn K (.ref eBadStand) "__getattr__" = some none)
    (edBadStand : PySem.W.hasDictIn K eBadStand = true)
    (ecBadStand : PySem.W.findIn K (.ref eBadStand) "__class__" = some (some (.builtin "object.__class__")))
    (emBadStand : PySem.W.mroIn K eBadStand (.type "object") = some true)
    (eaNoMove : PySem.W.nsIn K mainGlobals "NoMove" = some (some (.ref eNoMove)))
    (eeNoMove : PySem.W.excIn K eNoMove [.type "ValueError", .type "Exception", .type "BaseException", .type "object"] "ValueError.__new__" = true)
    (ekNoMove : PySem.W.keepIn K (.ref eNoMove) = true)
    (ebNoMove : PySem.W.subIn K (.ref eNoMove) (.type "BaseException") = some true)
    (etNoMove : PySem.W.typeIn K (.ref eNoMove) = some (.type "type"))
    (elNoMove : PySem.W.subIn K (.ref eNoMove) (.ref eLaneError) = some true)
    (evNoMove : PySem.W.subIn K (.ref eNoMove) (.type "ValueError") = some true)
    (esNoMove : PySem.W.subIn K (.ref eNoMove) (.ref eNoMove) = some true)
    (egNoMove : PySem.W.findIn K (.ref eNoMove) "__getattribute__" = some (some (.builtin "BaseException.__getattribute__")))
    (ejNoMove : PySem.W.findIn K (.ref eNoMove) "__getattr__" = some none)
    (edNoMove : PySem.W.hasDictIn K eNoMove = true)
    (ecNoMove : PySem.W.findIn K (.ref eNoMove) "__class__" = some (some (.builtin "object.__class__")))
    (emNoMove : PySem.W.mroIn K eNoMove (.type "object") = some true)
    (eaNoPlace : PySem.W.nsIn K mainGlobals "NoPlace" = some (some (.ref eNoPlace)))
    (eeNoPlace : PySem.W.excIn K eNoPlace [.type "ValueError", .type "Exception", .type "BaseException", .type "object"] "ValueError.__new__" = true)
    (ekNoPlace : PySem.W.keepIn K (.ref eNoPlace) = true)
    (ebNoPlace : PySem.W.subIn K (.ref eNoPlace) (.type "BaseException") = some true)
    (etNoPlace : PySem.W.typeIn K (.ref eNoPlace) = some (.type "type"))
    (elNoPlace : PySem.W.subIn K (.ref eNoPlace) (.ref eLaneError) = some true)
    (evNoPlace : PySem.W.subIn K (.ref eNoPlace) (.type "ValueError") = some true)
    (esNoPlace : PySem.W.subIn K (.ref eNoPlace) (.ref eNoPlace) = some true)
    (egNoPlace : PySem.W.findIn K (.ref eNoPlace) "__getattribute__" = some (some (.builtin "BaseException.__getattribute__")))
    (ejNoPlace : PySem.W.findIn K (.ref eNoPlace) "__getattr__" = some none)
    (edNoPlace : PySem.W.hasDictIn K eNoPlace = true)
    (ecNoPlace : PySem.W.findIn K (.ref eNoPlace) "__class__" = some (some (.builtin "object.__class__")))
    (emNoPlace : PySem.W.mroIn K eNoPlace (.type "object") = some true)
    (enBadLaneBadWays : PySem.W.subIn K (.ref eBadLane) (.ref eBadWays) = some false)
    (enBadLaneBadStand : PySem.W.subIn K (.ref eBadLane) (.ref eBadStand) = some false)
    (enBadLaneNoMove : PySem.W.subIn K (.ref eBadLane) (.ref eNoMove) = some false)
    (enBadLaneNoPlace : PySem.W.subIn K (.ref eBadLane) (.ref eNoPlace) = some false)
    (enBadWaysBadLane : PySem.W.subIn K (.ref eBadWays) (.ref eBadLane) = some false)
    (enBadWaysBadStand : PySem.W.subIn K (.ref eBadWays) (.ref eBadStand) = some false)
    (enBadWaysNoMove : PySem.W.subIn K (.ref eBadWays) (.ref eNoMove) = some false)
    (enBadWaysNoPlace : PySem.W.subIn K (.ref eBadWays) (.ref eNoPlace) = some false)
    (enBadStandBadLane : PySem.W.subIn K (.ref eBadStand) (.ref eBadLane) = some false)
    (enBadStandBadWays : PySem.W.subIn K (.ref eBadStand) (.ref eBadWays) = some false)
    (enBadStandNoMove : PySem.W.subIn K (.ref eBadStand) (.ref eNoMove) = some false)
    (enBadStandNoPlace : PySem.W.subIn K (.ref eBadStand) (.ref eNoPlace) = some false)
    (enNoMoveBadLane : PySem.W.subIn K (.ref eNoMove) (.ref eBadLane) = some false)
    (enNoMoveBadWays : PySem.W.subIn K (.ref eNoMove) (.ref eBadWays) = some false)
    (enNoMoveBadStand : PySem.W.subIn K (.ref eNoMove) (.ref eBadStand) = some false)
    (enNoMoveNoPlace : PySem.W.subIn K (.ref eNoMove) (.ref eNoPlace) = some false)
    (enNoPlaceBadLane : PySem.W.subIn K (.ref eNoPlace) (.ref eBadLane) = some false)
    (enNoPlaceBadWays : PySem.W.subIn K (.ref eNoPlace) (.ref eBadWays) = some false)
    (enNoPlaceBadStand : PySem.W.subIn K (.ref eNoPlace) (.ref eBadStand) = some false)
    (enNoPlaceNoMove : PySem.W.subIn K (.ref eNoPlace) (.ref eNoMove) = some false) :
    ∃ fd : FuncData, (∀ (s : Shared) (v : Value), BindsTo s fd ⟨[v], []⟩ [("_law_script", v)]) ∧ ∀ base : Heap, K.In base → base.Ns mainGlobals mg → FnOk l.prog w K mg base CX0 14 fa fd ["_law_script"] (spLaw K) := by
  have e := hfa.symm.trans (PySem.W.mg_of X G a42)
  cases e
  have T : Txt K mg :=
  { f_isNumber := ⟨_, _, fun_mk (st := s_isNumber) l0 c0 k0, PySem.W.mg_of X G a0, (fun_mk (st := s_isNumber) l0 c0 k0).binds (ps := ["thing", "least", "most"]) fun _ _ _ _ _ _ us hl => match us, hl with | [_, _, _], _ => rfl⟩,
    f_isWay := ⟨_, _, fun_mk (st := s_isWay) l1 c1 k1, PySem.W.mg_of X G a1, (fun_mk (st := s_isWay) l1 c1 k1).binds (ps := ["thing"]) fun _ _ _ _ _ _ us hl => match us, hl with | [_], _ => rfl⟩,
    f_needLane := ⟨_, _, fun_mk (st := s_needLane) l2 c2 k2, PySem.W.mg_of X G a2, (fun_mk (st := s_needLane) l2 c2 k2).binds (ps := ["lane"]) fun _ _ _ _ _ _ us hl => match us, hl with | [_], _ => rfl⟩,
    f_needWays := ⟨_, _, fun_mk (st := s_needWays) l3 c3 k3, PySem.W.mg_of X G a3, (fun_mk (st := s_needWays) l3 c3 k3).binds (ps := ["ways"]) fun _ _ _ _ _ _ us hl => match us, hl with | [_], _ => rfl⟩,
    f_needStand := ⟨_, _, fun_mk (st := s_needStand) l4 c4 k4, PySem.W.mg_of X G a4, (fun_mk (st := s_needStand) l4 c4 k4).binds (ps := ["lane", "ways", "stand"]) fun _ _ _ _ _ _ us hl => match us, hl with | [_, _, _], _ => rfl⟩,
    f_needSpots := ⟨_, _, fun_mk (st := s_needSpots) l5 c5 k5, PySem.W.mg_of X G a5, (fun_mk (st := s_needSpots) l5 c5 k5).binds (ps := ["lane", "stand"]) fun _ _ _ _ _ _ us hl => match us, hl with | [_, _], _ => rfl⟩,
    f_isSpot := ⟨_, _, fun_mk (st := s_isSpot) l6 c6 k6, PySem.W.mg_of X G a6, (fun_mk (st := s_isSpot) l6 c6 k6).binds (ps := ["lane", "thing"]) fun _ _ _ _ _ _ us hl => match us, hl with | [_, _], _ => rfl⟩,
    f_mostAt := ⟨_, _, fun_mk (st := s_mostAt) l7 c7 k7, PySem.W.mg_of X G a7, (fun_mk (st := s_mostAt) l7 c7 k7).binds (ps := ["lane", "spot"]) fun _ _ _ _ _ _ us hl => match us, hl with | [_, _], _ => rfl⟩,
    f_behind := ⟨_, _, fun_mk (st := s_behind) l8 c8 k8, PySem.W.mg_of X G a8, (fun_mk (st := s_behind) l8 c8 k8).binds (ps := ["lane", "ways", "stand", "move"]) fun _ _ _ _ _ _ us hl => match us, hl with | [_, _, _, _], _ => rfl⟩,
    f_isMove := ⟨_, _, fun_mk (st := s_isMove) l9 c9 k9, PySem.W.mg_of X G a9, (fun_mk (st := s_isMove) l9 c9 k9).binds (ps := ["thing", "trains"]) fun _ _ _ _ _ _ us hl => match us, hl with | [_, _], _ => rfl⟩,
    f_choices := ⟨_, _, fun_mk (st := s_choices) l10 c10 k10, PySem.W.mg_of X G a10, (fun_mk (st := s_choices) l10 c10 k10).binds (ps := ["lane", "ways", "stand", "train"]) fun _ _ _ _ _ _ us hl => match us, hl with | [_, _, _, _], _ => rfl⟩,
    f_tries := ⟨_, _, fun_mk (st := s_tries) l11 c11 k11, PySem.W.mg_of X G a11, (fun_mk (st := s_tries) l11 c11 k11).binds (ps := ["lane", "way", "spot", "train"]) fun _ _ _ _ _ _ us hl => match us, hl with | [_, _, _, _], _ => rfl⟩,
    f_spotAhead := ⟨_, _, fun_mk (st := s_spotAhead) l12 c12 k12, PySem.W.mg_of X G a12, (fun_mk (st := s_spotAhead) l12 c12 k12).binds (ps := ["lane", "way", "place"]) fun _ _ _ _ _ _ us hl => match us, hl with | [_, _, _], _ => rfl⟩,
    f_hasRoom := ⟨_, _, fun_mk (st := s_hasRoom) l13 c13 k13, PySem.W.mg_of X G a13, (fun_mk (st := s_hasRoom) l13 c13 k13).binds (ps := ["lane", "stand", "spot"]) fun _ _ _ _ _ _ us hl => match us, hl with | [_, _, _], _ => rfl⟩,
    f_reached := ⟨_, _, fun_mk (st := s_reached) l14 c14 k14, PySem.W.mg_of X G a14, (fun_mk (st := s_reached) l14 c14 k14).binds (ps := ["lane", "ways", "stand"]) fun _ _ _ _ _ _ us hl => match us, hl with | [_, _, _], _ => rfl⟩,
    f_leastRow := ⟨_, _, fun_mk (st := s_leastRow) l15 c15 k15, PySem.W.mg_of X G a15, (fun_mk (st := s_leastRow) l15 c15 k15).binds (ps := ["lane", "ways", "stand"]) fun _ _ _ _ _ _ us hl => match us, hl with | [_, _, _], _ => rfl⟩,
    f_closed := ⟨_, _, fun_mk (st := s_closed) l16 c16 k16, PySem.W.mg_of X G a16, (fun_mk (st := s_closed) l16 c16 k16).binds (ps := ["lane", "ways", "stand"]) fun _ _ _ _ _ _ us hl => match us, hl with | [_, _, _], _ => rfl⟩,
    f_allOut := ⟨_, _, fun_mk (st := s_allOut) l17 c17 k17, PySem.W.mg_of X G a17, (fun_mk (st := s_allOut) l17 c17 k17).binds (ps := ["trains"]) fun _ _ _ _ _ _ us hl => match us, hl with | [_], _ => rfl⟩,
    f_allTracks := ⟨_, _, fun_mk (st := s_allTracks) l18 c18 k18, PySem.W.mg_of X G a18, (fun_mk (st := s_allTracks) l18 c18 k18).binds (ps := ["lane", "ways"]) fun _ _ _ _ _ _ us hl => match us, hl with | [_, _], _ => rfl⟩,
    f_tracksFrom := ⟨_, _, fun_mk (st := s_tracksFrom) l19 c19 k19, PySem.W.mg_of X G a19, (fun_mk (st := s_tracksFrom) l19 c19 k19).binds (ps := ["lane", "way", "spot", "train"]) fun _ _ _ _ _ _ us hl => match us, hl with | [_, _, _, _], _ => rfl⟩,
    f_steps := ⟨_, _, fun_mk (st := s_steps) l20 c20 k20, PySem.W.mg_of X G a20, (fun_mk (st := s_steps) l20 c20 k20).binds (ps := ["tracks", "stand"]) fun _ _ _ _ _ _ us hl => match us, hl with | [_, _], _ => rfl⟩,
    f_searched := ⟨_, _, fun_mk (st := s_searched) l21 c21 k21, PySem.W.mg_of X G a21, (fun_mk (st := s_searched) l21 c21 k21).binds (ps := ["lane", "ways", "stand"]) fun _ _ _ _ _ _ us hl => match us, hl with | [_, _, _], _ => rfl⟩,
    f_lCellAt := ⟨_, _, fun_mk (st := s_lCellAt) l22 c22 k22, PySem.W.mg_of X G a22, (fun_mk (st := s_lCellAt) l22 c22 k22).binds (ps := ["_law_script", "_law_k"]) fun _ _ _ _ _ _ us hl => match us, hl with | [_, _], _ => rfl⟩,
    f_lWhole := ⟨_, _, fun_mk (st := s_lWhole) l23 c23 k23, PySem.W.mg_of X G a23, (fun_mk (st := s_lWhole) l23 c23 k23).binds (ps := ["_law_found"]) fun _ _ _ _ _ _ us hl => match us, hl with | [_], _ => rfl⟩,
    f_lMixed := ⟨_, _, fun_mk (st := s_lMixed) l24 c24 k24, PySem.W.mg_of X G a24, (fun_mk (st := s_lMixed) l24 c24 k24).binds (ps := ["_law_script", "_law_k"]) fun _ _ _ _ _ _ us hl => match us, hl with | [_, _], _ => rfl⟩,
    f_lSpot := ⟨_, _, fun_mk (st := s_lSpot) l25 c25 k25, PySem.W.mg_of X G a25, (fun_mk (st := s_lSpot) l25 c25 k25).binds (ps := ["_law_lane", "_law_stand", "_law_cell"]) fun _ _ _ _ _ _ us hl => match us, hl with | [_, _, _], _ => rfl⟩,
    f_lBuilt := ⟨_, _, fun_mk (st := s_lBuilt) l26 c26 k26, PySem.W.mg_of X G a26, (fun_mk (st := s_lBuilt) l26 c26 k26).binds (ps := ["_law_script"]) fun _ _ _ _ _ _ us hl => match us, hl with | [_], _ => rfl⟩,
    f_lOn := ⟨_, _, fun_mk (st := s_lOn) l27 c27 k27, PySem.W.mg_of X G a27, (fun_mk (st := s_lOn) l27 c27 k27).binds (ps := ["_law_lane", "_law_way", "_law_place"]) fun _ _ _ _ _ _ us hl => match us, hl with | [_, _, _], _ => rfl⟩,
    f_lMoves := ⟨_, _, fun_mk (st := s_lMoves) l28 c28 k28, PySem.W.mg_of X G a28, (fun_mk (st := s_lMoves) l28 c28 k28).binds (ps := ["_law_lane", "_law_ways", "_law_stand"]) fun _ _ _ _ _ _ us hl => match us, hl with | [_, _, _], _ => rfl⟩,
    f_lLeft := ⟨_, _, fun_mk (st := s_lLeft) l29 c29 k29, PySem.W.mg_of X G a29, (fun_mk (st := s_lLeft) l29 c29 k29).binds (ps := ["_law_lane", "_law_ways", "_law_stand"]) fun _ _ _ _ _ _ us hl => match us, hl with | [_, _, _], _ => rfl⟩,
    f_lKnown := ⟨_, _, fun_mk (st := s_lKnown) l30 c30 k30, PySem.W.mg_of X G a30, (fun_mk (st := s_lKnown) l30 c30 k30).binds (ps := ["_law_lane", "_law_ways", "_law_stand"]) fun _ _ _ _ _ _ us hl => match us, hl with | [_, _, _], _ => rfl⟩,
    f_lKind := ⟨_, _, fun_mk (st := s_lKind) l31 c31 k31, PySem.W.mg_of X G a31, (fun_mk (st := s_lKind) l31 c31 k31).binds (ps := ["_law_e"]) fun _ _ _ _ _ _ us hl => match us, hl with | [_], _ => rfl⟩,
    f_lTried := ⟨_, _, fun_mk (st := s_lTried) l32 c32 k32, PySem.W.mg_of X G a32, (fun_mk (st := s_lTried) l32 c32 k32).binds (ps := ["_law_yard", "_law_word", "_law_thing"]) fun _ _ _ _ _ _ us hl => match us, hl with | [_, _, _], _ => rfl⟩,
    f_lIsRow := ⟨_, _, fun_mk (st := s_lIsRow) l33 c33 k33, PySem.W.mg_of X G a33, (fun_mk (st := s_lIsRow) l33 c33 k33).binds (ps := ["_law_own_here", "_law_row", "_law_price"]) fun _ _ _ _ _ _ us hl => match us, hl with | [_, _, _], _ => rfl⟩,
    f_lIsClosed := ⟨_, _, fun_mk (st := s_lIsClosed) l34 c34 k34, PySem.W.mg_of X G a34, (fun_mk (st := s_lIsClosed) l34 c34 k34).binds (ps := ["_law_own_here", "_law_told"]) fun _ _ _ _ _ _ us hl => match us, hl with | [_, _], _ => rfl⟩,
    f_lChanged := ⟨_, _, fun_mk (st := s_lChanged) l35 c35 k35, PySem.W.mg_of X G a35, (fun_mk (st := s_lChanged) l35 c35 k35).binds (ps := ["_law_told", "_law_question"]) fun _ _ _ _ _ _ us hl => match us, hl with | [_, _], _ => rfl⟩,
    f_lAnswer := ⟨_, _, fun_mk (st := s_lAnswer) l36 c36 k36, PySem.W.mg_of X G a36, (fun_mk (st := s_lAnswer) l36 c36 k36).binds (ps := ["_law_yard", "_law_own_here", "_law_held", "_law_question"]) fun _ _ _ _ _ _ us hl => match us, hl with | [_, _, _, _], _ => rfl⟩,
    f_lLooked := ⟨_, _, fun_mk (st := s_lLooked) l37 c37 k37, PySem.W.mg_of X G a37, (fun_mk (st := s_lLooked) l37 c37 k37).binds (ps := ["_law_yard", "_law_own_here", "_law_held", "_law_cell"]) fun _ _ _ _ _ _ us hl => match us, hl with | [_, _, _, _], _ => rfl⟩,
    f_lRenewed := ⟨_, _, fun_mk (st := s_lRenewed) l38 c38 k38, PySem.W.mg_of X G a38, (fun_mk (st := s_lRenewed) l38 c38 k38).binds (ps := ["_law_own_here", "_law_gained"]) fun _ _ _ _ _ _ us hl => match us, hl with | [_, _], _ => rfl⟩,
    f_lMoved := ⟨_, _, fun_mk (st := s_lMoved) l39 c39 k39, PySem.W.mg_of X G a39, (fun_mk (st := s_lMoved) l39 c39 k39).binds (ps := ["_law_yard", "_law_own_here", "_law_cell"]) fun _ _ _ _ _ _ us hl => match us, hl with | [_, _, _], _ => rfl⟩,
    f_lLonger := ⟨_, _, fun_mk (st := s_lLonger) l40 c40 k40, PySem.W.mg_of X G a40, (fun_mk (st := s_lLonger) l40 c40 k40).binds (ps := ["_law_yard", "_law_own_here", "_law_cell"]) fun _ _ _ _ _ _ us hl => match us, hl with | [_, _, _], _ => rfl⟩,
    f_lOwn := ⟨_, _, fun_mk (st := s_lOwn) l41 c41 k41, PySem.W.mg_of X G a41, (fun_mk (st := s_lOwn) l41 c41 k41).binds (ps := ["_law_script"]) fun _ _ _ _ _ _ us hl => match us, hl with | [_], _ => rfl⟩,
    f_law := ⟨_, _, fun_mk (st := s_law) l42 c42 k42, PySem.W.mg_of X G a42, (fun_mk (st := s_law) l42 c42 k42).binds (ps := ["_law_script"]) fun _ _ _ _ _ _ us hl => match us, hl with | [_], _ => rfl⟩,
    b_ValueError := PySem.W.mg_none_of X G z_ValueError,
    b_all := PySem.W.mg_none_of X G z_all,
    b_any := PySem.W.mg_none_of X G z_any,
    b_bool := PySem.W.mg_none_of X G z_bool,
    b_dict := PySem.W.mg_none_of X G z_dict,
    b_enumerate := PySem.W.mg_none_of X G z_enumerate,
    b_int := PySem.W.mg_none_of X G z_int,
    b_isinstance := PySem.W.mg_none_of X G z_isinstance,
    b_len := PySem.W.mg_none_of X G z_len,
    b_list := PySem.W.mg_none_of X G z_list,
    b_min := PySem.W.mg_none_of X G z_min,
    b_range := PySem.W.mg_none_of X G z_range,
    b_sorted := PySem.W.mg_none_of X G z_sorted,
    b_str := PySem.W.mg_none_of X G z_str,
    b_tuple := PySem.W.mg_none_of X G z_tuple,
    b_type := PySem.W.mg_none_of X G z_type,
    c_MOST_PLACES := ⟨t_MOST_PLACES, PySem.W.mg_of X G i_MOST_PLACES⟩,
    c_MOST_HELD := ⟨t_MOST_HELD, PySem.W.mg_of X G i_MOST_HELD⟩,
    c_MOST_TRAINS := ⟨t_MOST_TRAINS, PySem.W.mg_of X G i_MOST_TRAINS⟩,
    al_closedSearch := (PySem.W.mg_of X G q_closedSearch).trans (PySem.W.mg_of X G a16).symm,
    yard := ⟨Cy, { cl := ⟨ypg, yhd, ypo, ysa⟩, g := PySem.W.mg_of X G yC, makes := ymk, kp := ykc, n_lane := yn_lane, n_shorter := yn_shorter, n_stand := yn_stand, n_ways := yn_ways, m_yInit := ⟨_, _, fun_mk (st := s_yInit) yl0 yc0 yk0, ⟨ya0, yi0, yk0⟩, (fun_mk (st := s_yInit) yl0 yc0 yk0).binds (ps := ["self", "lane", "ways", "stand"]) fun _ _ _ _ _ _ us hl => match us, hl with | [_, _, _, _], _ => rfl⟩, m_yLane := ⟨_, _, fun_mk (st := s_yLane) yl1 yc1 yk1, ⟨ya1, yi1, yk1⟩, (fun_mk (st := s_yLane) yl1 yc1 yk1).binds (ps := ["self"]) fun _ _ _ _ _ _ us hl => match us, hl with | [_], _ => rfl⟩, m_yWays := ⟨_, _, fun_mk (st := s_yWays) yl2 yc2 yk2, ⟨ya2, yi2, yk2⟩, (fun_mk (st := s_yWays) yl2 yc2 yk2).binds (ps := ["self"]) fun _ _ _ _ _ _ us hl => match us, hl with | [_], _ => rfl⟩, m_yStand := ⟨_, _, fun_mk (st := s_yStand) yl3 yc3 yk3, ⟨ya3, yi3, yk3⟩, (fun_mk (st := s_yStand) yl3 yc3 yk3).binds (ps := ["self"]) fun _ _ _ _ _ _ us hl => match us, hl with | [_], _ => rfl⟩, m_yDo := ⟨_, _, fun_mk (st := s_yDo) yl4 yc4 yk4, ⟨ya4, yi4, yk4⟩, (fun_mk (st := s_yDo) yl4 yc4 yk4).binds (ps := ["self", "move"]) fun _ _ _ _ _ _ us hl => match us, hl with | [_, _], _ => rfl⟩, m_yLonger := ⟨_, _, fun_mk (st := s_yLonger) yl5 yc5 yk5, ⟨ya5, yi5, yk5⟩, (fun_mk (st := s_yLonger) yl5 yc5 yk5).binds (ps := ["self", "place"]) fun _ _ _ _ _ _ us hl => match us, hl with | [_, _], _ => rfl⟩, m_yPrice := ⟨_, _, fun_mk (st := s_yPrice) yl6 yc6 yk6, ⟨ya6, yi6, yk6⟩, (fun_mk (st := s_yPrice) yl6 yc6 yk6).binds (ps := ["self"]) fun _ _ _ _ _ _ us hl => match us, hl with | [_], _ => rfl⟩, m_yRow := ⟨_, _, fun_mk (st := s_yRow) yl7 yc7 yk7, ⟨ya7, yi7, yk7⟩, (fun_mk (st := s_yRow) yl7 yc7 yk7).binds (ps := ["self"]) fun _ _ _ _ _ _ us hl => match us, hl with | [_], _ => rfl⟩, m_yClosed := ⟨_, _, fun_mk (st := s_yClosed) yl8 yc8 yk8, ⟨ya8, yi8, yk8⟩, (fun_mk (st := s_yClosed) yl8 yc8 yk8).binds (ps := ["self"]) fun _ _ _ _ _ _ us hl => match us, hl with | [_], _ => rfl⟩, m_yGained := ⟨_, _, fun_mk (st := s_yGained) yl9 yc9 yk9, ⟨ya9, yi9, yk9⟩, (fun_mk (st := s_yGained) yl9 yc9 yk9).binds (ps := ["self"]) fun _ _ _ _ _ _ us hl => match us, hl with | [_], _ => rfl⟩, m_yManyReached := ⟨_, _, fun_mk (st := s_yManyReached) yl10 yc10 yk10, ⟨ya10, yi10, yk10⟩, (fun_mk (st := s_yManyReached) yl10 yc10 yk10).binds (ps := ["self", "lane"]) fun _ _ _ _ _ _ us hl => match us, hl with | [_, _], _ => rfl⟩ }⟩,
    errs := ⟨eLaneError, Er.at_ eBadLane eBadWays eBadStand eNoMove eNoPlace, PySem.W.mg_of X G eaL, ehL, etL, ebL, fun x => match x with | .lane => ⟨PySem.W.mg_of X G eaBadLane, eeBadLane, ekBadLane, ebBadLane, etBadLane, elBadLane, kit_val evBadLane, ⟨egBadLane, ejBadLane, ebBadLane, edBadLane, ecBadLane, ehn, eht, emBadLane⟩⟩ | .ways => ⟨PySem.W.mg_of X G eaBadWays, eeBadWays, ekBadWays, ebBadWays, etBadWays, elBadWays, kit_val evBadWays, ⟨egBadWays, ejBadWays, ebBadWays, edBadWays, ecBadWays, ehn, eht, emBadWays⟩⟩ | .stand => ⟨PySem.W.mg_of X G eaBadStand, eeBadStand, ekBadStand, ebBadStand, etBadStand, elBadStand, kit_val evBadStand, ⟨egBadStand, ejBadStand, ebBadStand, edBadStand, ecBadStand, ehn, eht, emBadStand⟩⟩ | .move => ⟨PySem.W.mg_of X G eaNoMove, eeNoMove, ekNoMove, ebNoMove, etNoMove, elNoMove, kit_val evNoMove, ⟨egNoMove, ejNoMove, ebNoMove, edNoMove, ecNoMove, ehn, eht, emNoMove⟩⟩ | .place => ⟨PySem.W.mg_of X G eaNoPlace, eeNoPlace, ekNoPlace, ebNoPlace, etNoPlace, elNoPlace, kit_val evNoPlace, ⟨egNoPlace, ejNoPlace, ebNoPlace, edNoPlace, ecNoPlace, ehn, eht, emNoPlace⟩⟩, fun x y h => match x, y, h with | .lane, .lane, h => absurd rfl h | .lane, .ways, h => kit_sub edBadWays etBadWays esBadWays enBadLaneBadWays | .lane, .stand, h => kit_sub edBadStand etBadStand esBadStand enBadLaneBadStand | .lane, .move, h => kit_sub edNoMove etNoMove esNoMove enBadLaneNoMove | .lane, .place, h => kit_sub edNoPlace etNoPlace esNoPlace enBadLaneNoPlace | .ways, .lane, h => kit_sub edBadLane etBadLane esBadLane enBadWaysBadLane | .ways, .ways, h => absurd rfl h | .ways, .stand, h => kit_sub edBadStand etBadStand esBadStand enBadWaysBadStand | .ways, .move, h => kit_sub edNoMove etNoMove esNoMove enBadWaysNoMove | .ways, .place, h => kit_sub edNoPlace etNoPlace esNoPlace enBadWaysNoPlace | .stand, .lane, h => kit_sub edBadLane etBadLane esBadLane enBadStandBadLane | .stand, .ways, h => kit_sub edBadWays etBadWays esBadWays enBadStandBadWays | .stand, .stand, h => absurd rfl h | .stand, .move, h => kit_sub edNoMove etNoMove esNoMove enBadStandNoMove | .stand, .place, h => kit_sub edNoPlace etNoPlace esNoPlace enBadStandNoPlace | .move, .lane, h => kit_sub edBadLane etBadLane esBadLane enNoMoveBadLane | .move, .ways, h => kit_sub edBadWays etBadWays esBadWays enNoMoveBadWays | .move, .stand, h => kit_sub edBadStand etBadStand esBadStand enNoMoveBadStand | .move, .move, h => absurd rfl h | .move, .place, h => kit_sub edNoPlace etNoPlace esNoPlace enNoMoveNoPlace | .place, .lane, h => kit_sub edBadLane etBadLane esBadLane enNoPlaceBadLane | .place, .ways, h => kit_sub edBadWays etBadWays esBadWays enNoPlaceBadWays | .place, .stand, h => kit_sub edBadStand etBadStand esBadStand enNoPlaceBadStand | .place, .move, h => kit_sub edNoMove etNoMove esNoMove enNoPlaceNoMove | .place, .place, h => absurd rfl h⟩ }
  exact ⟨PySem.W.fnOf "law" "law" (defArgs s_law) (defBody s_law) (defScope s_law) .none kV42 dc42 pm42 an42 cd42 ct42, fun s v => .of_eq rfl, fun base _ _ => law_fn T (fun_mk (st := s_law) l42 c42 k42)⟩
end Slx
open PySem PySem.W PyProof.Rows
set_option maxHeartbeats 0 in
theorem PySem.Challenge.cw_sidinglane_k10_whole_a_yard_holds : PySem.Challenge.rw_sidinglane_k10_whole_a_yard.Holds := by
  w_on; o_law; k_head; (case hw => w_witness2)
  k_fill
  refine L2.walk_of (l := PySem.Challenge.rw_sidinglane_k10_whole_a_yard) (n := 63) (k := 14) (x := "_law_script") (CX := fun _ => L2.CX0) (sp := fun w => Slx.spLaw _) rfl (by decide) rfl ⟨rfl, by decide, by decide⟩ (fun w h Y => PySem.W.kIn_of Y) ?F (fun _ _ a ns hl _ hS => ⟨a, ns, rfl, hS, hl, fun _ => rfl⟩) (fun _ _ _ _ _ h => h)
  case F =>
    intro w mg fa h KX G hmg
    refine' Slx.all_mk KX G hmg ?a0 ?l0 ?c0 ?k0 ?a1 ?l1 ?c1 ?k1 ?a2 ?l2 ?c2 ?k2 ?a3 ?l3 ?c3 ?k3 ?a4 ?l4 ?c4 ?k4 ?a5 ?l5 ?c5 ?k5 ?a6 ?l6 ?c6 ?k6 ?a7 ?l7 ?c7 ?k7 ?a8 ?l8 ?c8 ?k8 ?a9 ?l9 ?c9 ?k9 ?a10 ?l10 ?c10 ?k10 ?a11 ?l11 ?c11 ?k11 ?a12 ?l12 ?c12 ?k12 ?a13 ?l13 ?c13 ?k13 ?a14 ?l14 ?c14 ?k14 ?a15 ?l15 ?c15 ?k15 ?a16 ?l16 ?c16 ?k16 ?a17 ?l17 ?c17 ?k17 ?a18 ?l18 ?c18 ?k18 ?a19 ?l19 ?c19 ?k19 ?a20 ?l20 ?c20 ?k20 ?a21 ?l21 ?c21 ?k21 ?a22 ?l22 ?c22 ?k22 ?a23 ?l23 ?c23 ?k23 ?a24 ?l24 ?c24 ?k24 ?a25 ?l25 ?c25 ?k25 ?a26 ?l26 ?c26 ?k26 ?a27 ?l27 ?c27 ?k27 ?a28 ?l28 ?c28 ?k28 ?a29 ?l29 ?c29 ?k29 ?a30 ?l30 ?c30 ?k30 ?a31 ?l31 ?c31 ?k31 ?a32 ?l32 ?c32 ?k32 ?a33 ?l33 ?c33 ?k33 ?a34 ?l34 ?c34 ?k34 ?a35 ?l35 ?c35 ?k35 ?a36 ?l36 ?c36 ?k36 ?a37 ?l37 ?c37 ?k37 ?a38 ?l38 ?c38 ?k38 ?a39 ?l39 ?c39 ?k39 ?a40 ?l40 ?c40 ?k40 ?a41 ?l41 ?c41 ?k41 ?a42 ?l42 ?c42 ?k42 ?z_ValueError ?z_all ?z_any ?z_bool ?z_dict ?z_enumerate ?z_int ?z_isinstance ?z_len ?z_list ?z_min ?z_range ?z_sorted ?z_str ?z_tuple ?z_type ?i_MOST_PLACES ?i_MOST_HELD ?i_MOST_TRAINS ?q_closedSearch ?yC ?ypg ?yhd ?ypo ?ysa ?ymk ?ykc ?yn_lane ?yn_shorter ?yn_stand ?yn_ways ?ya0 ?yi0 ?yl0 ?yc0 ?yk0 ?ya1 ?yi1 ?yl1 ?yc1 ?yk1 ?ya2 ?yi2 ?yl2 ?yc2 ?yk2 ?ya3 ?yi3 ?yl3 ?yc3 ?yk3 ?ya4 ?yi4 ?yl4 ?yc4 ?yk4 ?ya5 ?yi5 ?yl5 ?yc5 ?yk5 ?ya6 ?yi6 ?yl6 ?yc6 ?yk6 ?ya7 ?yi7 ?yl7 ?yc7 ?yk7 ?ya8 ?yi8 ?yl8 ?yc8 ?yk8 ?ya9 ?yi9 ?yl9 ?yc9 ?yk9 ?ya10 ?yi10 ?yl10 ?yc10 ?yk10 ?eaL ?ehL ?etL ?ebL ?ehn ?eht ?eaBadLane ?eeBadLane ?ekBadLane ?ebBadLane ?etBadLane ?elBadLane ?evBadLane ?esBadLane ?egBadLane ?ejBadLane ?edBadLane ?ecBadLane ?emBadLane ?eaBadWays ?eeBadWays ?ekBadWays ?ebBadWays ?etBadWays ?elBadWays ?evBadWays ?esBadWays ?egBadWays ?ejBadWays ?edBadWays ?ecBadWays ?emBadWays ?eaBadStand ?eeBadStand ?ekBadStand ?ebBadStand ?etBadStand ?elBadStand ?evBadStand ?esBadStand ?egBadStand ?ejBadStand ?edBadStand ?ecBadStand ?emBadStand ?eaNoMove ?eeNoMove ?ekNoMove ?ebNoMove ?etNoMove ?elNoMove ?evNoMove ?esNoMove ?egNoMove ?ejNoMove ?edNoMove ?ecNoMove ?emNoMove ?eaNoPlace ?eeNoPlace ?ekNoPlace ?ebNoPlace ?etNoPlace ?elNoPlace ?evNoPlace ?esNoPlace ?egNoPlace ?ejNoPlace ?edNoPlace ?ecNoPlace ?emNoPlace ?enBadLaneBadWays ?enBadLaneBadStand ?enBadLaneNoMove ?enBadLaneNoPlace ?enBadWaysBadLane ?enBadWaysBadStand ?enBadWaysNoMove ?enBadWaysNoPlace ?enBadStandBadLane ?enBadStandBadWays ?enBadStandNoMove ?enBadStandNoPlace ?enNoMoveBadLane ?enNoMoveBadWays ?enNoMoveBadStand ?enNoMoveNoPlace ?enNoPlaceBadLane ?enNoPlaceBadWays ?enNoPlaceBadStand ?enNoPlaceNoMove
    (case a0 => k_is); (case l0 => k_is); (case c0 => k_is); (case k0 => k_is); (case a1 => k_is); (case l1 => k_is); (case c1 => k_is); (case k1 => k_is); (case a2 => k_is); (case l2 => k_is); (case c2 => k_is); (case k2 => k_is); (case a3 => k_is); (case l3 => k_is); (case c3 => k_is); (case k3 => k_is); (case a4 => k_is); (case l4 => k_is); (case c4 => k_is); (case k4 => k_is); (case a5 => k_is); (case l5 => k_is); (case c5 => k_is); (case k5 => k_is); (case a6 => k_is); (case l6 => k_is); (case c6 => k_is); (case k6 => k_is); (case a7 => k_is); (case l7 => k_is); (case c7 => k_is); (case k7 => k_is); (case a8 => k_is); (case l8 => k_is); (case c8 => k_is); (case k8 => k_is); (case a9 => k_is); (case l9 => k_is); (case c9 => k_is); (case k9 => k_is); (case a10 => k_is); (case l10 => k_is); (case c10 => k_is); (case k10 => k_is); (case a11 => k_is); (case l11 => k_is); (case c11 => k_is); (case k11 => k_is); (case a12 => k_is); (case l12 => k_is); (case c12 => k_is); (case k12 => k_is); (case a13 => k_is); (case l13 => k_is); (case c13 => k_is); (case k13 => k_is); (case a14 => k_is); (case l14 => k_is); (case c14 => k_is); (case k14 => k_is); (case a15 => k_is); (case l15 => k_is); (case c15 => k_is); (case k15 => k_is); (case a16 => k_is); (case l16 => k_is); (case c16 => k_is); (case k16 => k_is); (case a17 => k_is); (case l17 => k_is); (case c17 => k_is); (case k17 => k_is); (case a18 => k_is); (case l18 => k_is); (case c18 => k_is); (case k18 => k_is); (case a19 => k_is); (case l19 => k_is); (case c19 => k_is); (case k19 => k_is); (case a20 => k_is); (case l20 => k_is); (case c20 => k_is); (case k20 => k_is); (case a21 => k_is); (case l21 => k_is); (case c21 => k_is); (case k21 => k_is); (case a22 => k_is); (case l22 => k_is); (case c22 => k_is); (case k22 => k_is); (case a23 => k_is); (case l23 => k_is); (case c23 => k_is); (case k23 => k_is); (case a24 => k_is); (case l24 => k_is); (case c24 => k_is); (case k24 => k_is); (case a25 => k_is); (case l25 => k_is); (case c25 => k_is); (case k25 => k_is); (case a26 => k_is); (case l26 => k_is); (case c26 => k_is); (case k26 => k_is); (case a27 => k_is); (case l27 => k_is); (case c27 => k_is); (case k27 => k_is); (case a28 => k_is); (case l28 => k_is); (case c28 => k_is); (case k28 => k_is); (case a29 => k_is); (case l29 => k_is); (case c29 => k_is); (case k29 => k_is); (case a30 => k_is); (case l30 => k_is); (case c30 => k_is); (case k30 => k_is); (case a31 => k_is); (case l31 => k_is); (case c31 => k_is); (case k31 => k_is); (case a32 => k_is); (case l32 => k_is); (case c32 => k_is); (case k32 => k_is); (case a33 => k_is); (case l33 => k_is); (case c33 => k_is); (case k33 => k_is); (case a34 => k_is); (case l34 => k_is); (case c34 => k_is); (case k34 => k_is); (case a35 => k_is); (case l35 => k_is); (case c35 => k_is); (case k35 => k_is); (case a36 => k_is); (case l36 => k_is); (case c36 => k_is); (case k36 => k_is); (case a37 => k_is); (case l37 => k_is); (case c37 => k_is); (case k37 => k_is); (case a38 => k_is); (case l38 => k_is); (case c38 => k_is); (case k38 => k_is); (case a39 => k_is); (case l39 => k_is); (case c39 => k_is); (case k39 => k_is); (case a40 => k_is); (case l40 => k_is); (case c40 => k_is); (case k40 => k_is); (case a41 => k_is); (case l41 => k_is); (case c41 => k_is); (case k41 => k_is); (case a42 => k_is); (case l42 => k_is); (case c42 => k_is); (case k42 => k_is); (case z_ValueError => k_is); (case z_all => k_is); (case z_any => k_is); (case z_bool => k_is); (case z_dict => k_is); (case z_enumerate => k_is); (case z_int => k_is); (case z_isinstance => k_is); (case z_len => k_is); (case z_list => k_is); (case z_min => k_is); (case z_range => k_is); (case z_sorted => k_is); (case z_str => k_is); (case z_tuple => k_is); (case z_type => k_is); (case i_MOST_PLACES => k_is); (case i_MOST_HELD => k_is); (case i_MOST_TRAINS => k_is); (case q_closedSearch => k_is); (case yC => k_is); (case ypg => k_is); (case yhd => k_is); (case ypo => k_is); (case ysa => k_is); (case ymk => k_is); (case ykc => k_is); (case yn_lane => k_is); (case yn_shorter => k_is); (case yn_stand => k_is); (case yn_ways => k_is); (case ya0 => k_is); (case yi0 => k_is); (case yl0 => k_is); (case yc0 => k_is); (case yk0 => k_is); (case ya1 => k_is); (case yi1 => k_is); (case yl1 => k_is); (case yc1 => k_is); (case yk1 => k_is); (case ya2 => k_is); (case yi2 => k_is); (case yl2 => k_is); (case yc2 => k_is); (case yk2 => k_is); (case ya3 => k_is); (case yi3 => k_is); (case yl3 => k_is); (case yc3 => k_is); (case yk3 => k_is); (case ya4 => k_is); (case yi4 => k_is); (case yl4 => k_is); (case yc4 => k_is); (case yk4 => k_is); (case ya5 => k_is); (case yi5 => k_is); (case yl5 => k_is); (case yc5 => k_is); (case yk5 => k_is); (case ya6 => k_is); (case yi6 => k_is); (case yl6 => k_is); (case yc6 => k_is); (case yk6 => k_is); (case ya7 => k_is); (case yi7 => k_is); (case yl7 => k_is); (case yc7 => k_is); (case yk7 => k_is); (case ya8 => k_is); (case yi8 => k_is); (case yl8 => k_is); (case yc8 => k_is); (case yk8 => k_is); (case ya9 => k_is); (case yi9 => k_is); (case yl9 => k_is); (case yc9 => k_is); (case yk9 => k_is); (case ya10 => k_is); (case yi10 => k_is); (case yl10 => k_is); (case yc10 => k_is); (case yk10 => k_is); (case eaL => k_is); (case ehL => k_is); (case etL => k_is); (case ebL => k_is); (case ehn => k_is); (case eht => k_is); (case eaBadLane => k_is); (case eeBadLane => k_exc); (case ekBadLane => k_is); (case ebBadLane => k_is); (case etBadLane => k_is); (case elBadLane => k_is); (case evBadLane => k_is); (case esBadLane => k_is); (case egBadLane => k_is); (case ejBadLane => k_is); (case edBadLane => k_is); (case ecBadLane => k_is); (case emBadLane => k_is); (case eaBadWays => k_is); (case eeBadWays => k_exc); (case ekBadWays => k_is); (case ebBadWays => k_is); (case etBadWays => k_is); (case elBadWays => k_is); (case evBadWays => k_is); (case esBadWays => k_is); (case egBadWays => k_is); (case ejBadWays => k_is); (case edBadWays => k_is); (case ecBadWays => k_is); (case emBadWays => k_is); (case eaBadStand => k_is); (case eeBadStand => k_exc); (case ekBadStand => k_is); (case ebBadStand => k_is); (case etBadStand => k_is); (case elBadStand => k_is); (case evBadStand => k_is); (case esBadStand => k_is); (case egBadStand => k_is); (case ejBadStand => k_is); (case edBadStand => k_is); (case ecBadStand => k_is); (case emBadStand => k_is); (case eaNoMove => k_is); (case eeNoMove => k_exc); (case ekNoMove => k_is); (case ebNoMove => k_is); (case etNoMove => k_is); (case elNoMove => k_is); (case evNoMove => k_is); (case esNoMove => k_is); (case egNoMove => k_is); (case ejNoMove => k_is); (case edNoMove => k_is); (case ecNoMove => k_is); (case emNoMove => k_is); (case eaNoPlace => k_is); (case eeNoPlace => k_exc); (case ekNoPlace => k_is); (case ebNoPlace => k_is); (case etNoPlace => k_is); (case elNoPlace => k_is); (case evNoPlace => k_is); (case esNoPlace => k_is); (case egNoPlace => k_is); (case ejNoPlace => k_is); (case edNoPlace => k_is); (case ecNoPlace => k_is); (case emNoPlace => k_is); (case enBadLaneBadWays => k_is); (case enBadLaneBadStand => k_is); (case enBadLaneNoMove => k_is); (case enBadLaneNoPlace => k_is); (case enBadWaysBadLane => k_is); (case enBadWaysBadStand => k_is); (case enBadWaysNoMove => k_is); (case enBadWaysNoPlace => k_is); (case enBadStandBadLane => k_is); (case enBadStandBadWays => k_is); (case enBadStandNoMove => k_is); (case enBadStandNoPlace => k_is); (case enNoMoveBadLane => k_is); (case enNoMoveBadWays => k_is); (case enNoMoveBadStand => k_is); (case enNoMoveNoPlace => k_is); (case enNoPlaceBadLane => k_is); (case enNoPlaceBadWays => k_is); (case enNoPlaceBadStand => k_is); (case enNoPlaceNoMove => k_is)
#print axioms PySem.Challenge.cw_sidinglane_k10_whole_a_yard_holds

