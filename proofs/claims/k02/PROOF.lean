import PyProof.Rows.All
import Wide.All
import OpenK.AllK
import Wide.FinOn
import HandS.ForMost
import HandS.Deep
import HandS.TupAny
import HandS.Zip
import HandS.More
import HandS.IsInst
import HandS.Sort
import KE.DataFind
import KE.GoesEnum
import HandS.Walk
import HandS.Codes
import HandS.HotCalls
import HandS.ExcIs
import PySem.Challenge.RW_sidinglane_k02_moves_allowed
set_option Elab.async false
set_option linter.all false
set_option maxRecDepth 100000
set_option maxHeartbeats 4000000
/-! Rules of my own beside the layer's: how often data stand in a tuple or a list, whether they stand in a tuple, a walk over a list and a tuple side by side, tuples whose object is known. -/
namespace Sl
open PySem PySem.Spec PyProof.Rows L2
section
variable {X : Cx}
/-- what a count over data asks; c tells the container's kind -/
def rCount (c : List PyData → PyData) (K : PySem.W.Frag) : V → List V → Hp → VK → Prop := fun x xs H Q => ∃ (y : V) (d : PyData) (ds : List PyData), xs = [y] ∧ Dp K H x (c ds) ∧ Dp K H y d ∧
  SeqAt.shaped (c ds) = true ∧ SeqAt.shaped d = true ∧ Q (.int ((ds.countP fun z => PyData.eqv z d : Nat) : Int)) H
abbrev rCountL := rCount .list
abbrev rCountT := rCount .tuple
theorem plain_each {ds : List PyData} (h : PyData.canLayAll0 ds = true) : PyData.plainAll ds = true := PyData.plain_of_canLay0 (.list ds) h
theorem mt_countL (hu : X.A.units + 65 < cLine) : MtR X "list.count" (rCountL X.K) := fun pins s σ H x xs v us Q J rx rs ⟨y, d, ds, e, hl, hy, sl, sd, q⟩ => by
  subst e
  obtain ⟨u, eu, ry⟩ := Vals.one rs
  subst eu
  obtain ⟨_, ra⟩ := Dp.reads J d y u hy ry
  have lay : PyData.canLayAll0 ds = true := SeqAt.canLay_of_shaped (d := .list ds) sl
  cases hl with
  | lst at_ all_ =>
    cases rx
    obtain ⟨vals, rels, there, _⟩ := J.list at_
    obtain ⟨adrs, reads⟩ := Dp.readsAll J ds _ vals all_ rels
    exact SeqAt.count_list_data (vs := vals.toArray) there.isList reads ra (plain_each lay) (PyData.plain_of_canLay0 d (SeqAt.canLay_of_shaped sd)) (room_in_shaped sd hu) ⟨.int _, H, J.tok _, ⟨_, rfl⟩, q⟩
theorem mt_countT (hu : X.A.units + 65 < cLine) : MtR X "tuple.count" (rCountT X.K) := fun pins s σ H x xs v us Q J rx rs ⟨y, d, ds, e, hl, hy, sl, sd, q⟩ => by
  subst e
  obtain ⟨u, eu, ry⟩ := Vals.one rs
  subst eu
  obtain ⟨_, ra⟩ := Dp.reads J d y u hy ry
  have lay : PyData.canLayAll0 ds = true := SeqAt.canLay_of_shaped (d := .tuple ds) sl
  cases hl with
  | tup at_ all_ =>
    cases rx
    obtain ⟨vals, rels, there, _⟩ := J.tuple at_
    obtain ⟨adrs, reads⟩ := Dp.readsAll J ds _ vals all_ rels
    exact SeqAt.count_tuple_data (vs := vals.toArray) there reads ra (plain_each lay) (PyData.plain_of_canLay0 d (SeqAt.canLay_of_shaped sd)) (room_in_shaped sd hu) ⟨.int _, H, J.tok _, ⟨_, rfl⟩, q⟩
/-- x in t, x not in t: a tuple of data -/
def rInT (K : PySem.W.Frag) : R2 := fun x y H Q => ∃ d ds, (Dp K H x d ∧ Dp K H y (.tuple ds)) ∧ (SeqAt.shaped d = true ∧ SeqAt.shaped (.tuple ds) = true) ∧ Q (.bl (ds.any fun z => PyData.eqv z d)) H
def rNotInT (K : PySem.W.Frag) : R2 := fun x y H Q => ∃ d ds, (Dp K H x d ∧ Dp K H y (.tuple ds)) ∧ (SeqAt.shaped d = true ∧ SeqAt.shaped (.tuple ds) = true) ∧ Q (.bl (!ds.any fun z => PyData.eqv z d)) H
theorem op_inT (hu : X.A.units + 65 < cLine) : OpR X (compareOp .In) (rInT X.K) := fun pins s σ H x y v u Q J rx ry ⟨d, ds, ⟨dx, dy⟩, ⟨sx, sy⟩, q⟩ => by
  obtain ⟨_, r1⟩ := Dp.reads J d x v dx rx
  obtain ⟨_, r2⟩ := Dp.reads J (.tuple ds) y u dy ry
  exact SeqAt.in_tuple_reads r2 r1 (SeqAt.canLay_of_shaped (d := .tuple ds) sy) (SeqAt.canLay_of_shaped sx) (room_in_shaped sx hu) ⟨.bl _, H, J, rfl, q⟩
theorem op_notInT (hu : X.A.units + 65 < cLine) : OpR X (compareOp .NotIn) (rNotInT X.K) := fun pins s σ H x y v u Q J rx ry ⟨d, ds, ⟨dx, dy⟩, ⟨sx, sy⟩, q⟩ => by
  obtain ⟨_, r1⟩ := Dp.reads J d x v dx rx
  obtain ⟨_, r2⟩ := Dp.reads J (.tuple ds) y u dy ry
  exact SeqAt.notIn_tuple_reads r2 r1 (SeqAt.canLay_of_shaped (d := .tuple ds) sy) (SeqAt.canLay_of_shaped sx) (room_in_shaped sx hu) ⟨.bl _, H, J, rfl, q⟩
end
/-! ### a list and a tuple, side by side -/
/-- a turn gives a new pair; both stand still -/
def ItzM (K : PySem.W.Frag) (a b : Addr) : It where
  go := fun i H => ∃ (xs ys : List V) (x y : V), (SqL K H a xs ∧ xs[i]? = some x) ∧ (SqT K H b ys ∧ ys[i]? = some y)
  yld := fun i H v H' => ∃ T x y, v = .ref T ∧ H T = none ∧ H' = upd H T (.tup [x, y]) ∧ (∀ xs, SqL K H a xs → xs[i]? = some x) ∧ ∀ ys, SqT K H b ys → ys[i]? = some y
  stop := fun i H => ∃ xs ys : List V, (SqL K H a xs ∧ i ≤ xs.length) ∧ (SqT K H b ys ∧ i ≤ ys.length) ∧ (xs.length = i ∨ ys.length = i)
/-- where the zip stands behind i turns -/
def StM (z TI TO i1 i2 a b : Addr) (i : Nat) (h : Heap) : Prop := (IsZip h z TI TO .none ∧ IsPair h TI (.ref i1) (.ref i2) ∧ ∃ x y, IsPair h TO x y) ∧ h.IsListIter i1 a i ∧ h.IsTupleIter i2 b i
section
variable {z TI TO i1 i2 a b : Addr} {h : Heap} {i : Nat}
/-- its five objects -/
theorem StM.each {R : Addr → Prop} (p1 : R z) (p2 : R TI) (p3 : R TO) (p4 : R i1) (p5 : R i2) : ∀ c ∈ [z, TI, TO, i1, i2], R c := by
  simp only [List.forall_mem_cons]
  exact ⟨p1, p2, p3, p4, p5, fun _ q => nomatch q⟩
theorem StM.sizes (st : StM z TI TO i1 i2 a b i h) : ∀ c ∈ [z, TI, TO, i1, i2], c < h.objs.size := by
  obtain ⟨⟨hz, hI, _, _, hO⟩, ⟨_, w1, _⟩, ⟨_, w2, _⟩⟩ := st
  exact StM.each (Heap.lt_size hz) (Heap.lt_size hI) (Heap.lt_size hO) (Heap.lt_size w1) (Heap.lt_size w2)
/-- an iterator is no list, no tuple -/
theorem StM.notL (st : StM z TI TO i1 i2 a b i h) {xs : Array Value} (l : h.IsList a xs) : a ≠ i1 := fun e => by
  obtain ⟨_, w, c, _⟩ := st.2.1
  obtain ⟨_, w', c', _⟩ := l
  rw [← e, w'] at w
  cases w
  rw [c'] at c
  exact absurd c (by decide)
theorem StM.notT (st : StM z TI TO i1 i2 a b i h) {ys : Array Value} (l : h.IsTuple b ys) : b ≠ i2 := fun e => by
  obtain ⟨_, w, c, _⟩ := st.2.2
  obtain ⟨_, w', c', _⟩ := l
  rw [← e, w'] at w
  cases w
  rw [c'] at c
  exact absurd c (by decide)
/-- what stands elsewhere is not touched by a turn -/
theorem StM.off {h' : Heap} (kp : ∀ c o, c ≠ z → c ≠ TO → c ≠ i1 → c ≠ i2 → h.get? c = some o → h'.get? c = some o) {c : Addr} (hc : c ∉ [z, TI, TO, i1, i2]) {o : Obj} (g : h.get? c = some o) : h'.get? c = some o :=
  kp c o (fun e => hc (by simp [e])) (fun e => hc (by simp [e])) (fun e => hc (by simp [e])) (fun e => hc (by simp [e])) g
end
theorem turn_zipM {P : Program} {w : World} {K : PySem.W.Frag} {elts : List Expr} {kk : Nat} {tpos : Pos} {a b z TI TO i1 i2 : Addr} (S : ZipSep2 z TI TO i1 i2 [i1, a] [i2, b]) :
    Turn P w K (.Tuple elts kk tpos) (ItzM K a b) [z, TI, TO, i1, i2] z (StM z TI TO i1 i2 a b) where
  mem := List.mem_cons_self ..
  obj := fun i h ⟨⟨hz, hI, _, _, hO⟩, ⟨_, w1, _, d1⟩, ⟨_, w2, _, d2⟩⟩ => StM.each ⟨_, hz, fun _ => nofun⟩ ⟨_, hI, fun _ => nofun⟩ ⟨_, hO, fun _ => nofun⟩ ⟨_, w1, fun _ e => nomatch d1.symm.trans e⟩ ⟨_, w2, fun _ e => nomatch d2.symm.trans e⟩
  keep := fun i h h' ⟨⟨hz, hI, x, y, hO⟩, w1, w2⟩ kp => ⟨⟨kp _ (by simp) _ hz, kp _ (by simp) _ hI, x, y, kp _ (by simp) _ hO⟩, w1.at fun o => kp i1 (by simp) o, w2.at fun o => kp i2 (by simp) o⟩
  item := by
    rintro Y rfl rfl rfl calm i pn s σ H E J fr st ⟨xs, ys, x, y, ⟨sx, gx⟩, ⟨sy, gy⟩⟩
    obtain ⟨vs, rvs, pl, _⟩ := J.list sx
    obtain ⟨ws, rws, pt, _⟩ := J.tuple sy
    obtain ⟨u, hu, ru⟩ := rvs.get gx
    obtain ⟨t, ht, rt⟩ := rws.get gy
    have bu : i < vs.length := (List.getElem?_eq_some_iff.mp hu).1
    have bt : i < ws.length := (List.getElem?_eq_some_iff.mp ht).1
    have hh : Y.A.in1.handled = none := J.ok.hd calm
    have lt := st.sizes
    have zlt : z < s.heap.objs.size := lt z (by simp)
    obtain ⟨⟨hz, hI, x0, y0, hO⟩, w1, w2⟩ := id st
    refine wpAny_pyNext_zipD2_item S (Draws.list hh i1 a (st.notL pl.isList) vs.toArray) (Draws.tuple hh i2 b (st.notT (ys := ws.toArray) pt) ws.toArray) hz hI hO ⟨w1, pl.isList⟩ ⟨w2, pt⟩ (by simpa using bu) (by simpa using bt)
      fun v1 v2 h1 tk g1 g2 z1 O1 ⟨n1, _⟩ ⟨n2, _⟩ T1 _ kp => ?_
    obtain rfl : u = v1 := Option.some.inj (hu.symm.trans (by simpa using g1))
    obtain rfl : t = v2 := Option.some.inj (ht.symm.trans (by simpa using g2))
    refine ⟨_, rfl, wpAny_letOwnedTupleGo_zip (s := { s with heap := h1, toks := tk }) z1 fun h2 z2 but => ?_⟩
    have T2 := (but.2 _ (Nat.ne_of_gt zlt)).trans T1
    have I2 := J.turnedNew (t' := tk) (ch := [z, TI, TO, i1, i2]) (h' := h2) (T := s.heap.objs.size) (ob := .tup [x, y]) (fun c o hc g => (but.2 c fun e => hc (by simp [e])).trans (StM.off kp hc g)) fr (Nat.le_refl _)
      ⟨(by decide : 2 ≤ sizeLine), [u, t], .cons ru (.cons rt .nil), _, T2, rfl, _, rfl⟩
    refine ⟨.ref s.heap.objs.size, _, I2, rfl, ⟨_, x, y, rfl, J.hok.fresh (Nat.le_refl _), rfl, fun l q => (J.list_inj q sx) ▸ gx, fun l q => (J.tuple_inj q sy) ▸ gy⟩, ⟨⟨z2, (but.2 _ S.TIz).trans (kp _ _ S.TIz S.TITO S.TIi1 S.TIi2 hI), u, t, (but.2 _ S.TOz).trans O1⟩,
      n1.at fun o g => (but.2 _ S.zi1.symm).trans g, n2.at fun o g => (but.2 _ S.zi2.symm).trans g⟩, fun c hc => ?_⟩
    exact (upd_ne (Nat.ne_of_lt (lt c hc))).trans (fr c hc).1
  done := by
    rintro Y rfl rfl rfl calm i pn s σ H E J fr st ⟨xs, ys, ⟨sx, bx⟩, ⟨sy, by_⟩, fin⟩
    obtain ⟨vs, rvs, pl, _⟩ := J.list sx
    obtain ⟨ws, rws, pt, _⟩ := J.tuple sy
    have lv := rvs.length
    have lw := rws.length
    have hh : Y.A.in1.handled = none := J.ok.hd calm
    obtain ⟨⟨hz, hI, x0, y0, hO⟩, w1, w2⟩ := id st
    exact wpAny_pyNext_zipD2_end S (Draws.list hh i1 a (st.notL pl.isList) vs.toArray) (Draws.tuple hh i2 b (st.notT (ys := ws.toArray) pt) ws.toArray) hz hI hO (i := i) ⟨w1, pl.isList⟩ ⟨w2, pt⟩ (by simp; omega) (by simp; omega) (by simp; omega)
      fun h1 tk kp => ⟨rfl, J.turnedL (t' := tk) (ch := [z, TI, TO, i1, i2]) (fun c o hc g => StM.off kp hc g) fr⟩
  self := fun A i s Q E ⟨⟨hz, _⟩, _⟩ => wpAny_pyIter_zip hz
def iZipM (K : PySem.W.Frag) (ta : TA) : TI := fun σ H R => ta σ H fun vs H1 => ∃ a b xs ys, vs = [.ref a, .ref b] ∧ SqL K H1 a xs ∧ SqT K H1 b ys ∧ R (ItzM K a b) H1
theorem pi_zipM {X : Cx} {e e2 : Expr} {ta : TA} {p pos tpos : Pos} {elts : List Expr} {kk : Nat} (hg : Gl X "zip") (hm : X.mg "zip" = none) (ha : PA X [e, e2] ta) (st : starEach [e, e2] X.env = (false, eval e X.env) :: starEach [e2] X.env := by rfl)
    (pl : (backTo pos (starEach [e2] X.env)).any (·.1) = false := by rfl) : PI X (.Tuple elts kk tpos) (.Call (.Name "zip" p) [e, e2] [] pos) (iZipM X.K ta) := ⟨fun pins s σ H R I wish => by
  refine Call_ (ld_blt I hg hm PyProof.Rows.boot_zip (PyProof.Rows.callWith_type1 (thn (ha.run pos pins s σ H _ I wish) fun us t ⟨vs, G, J, rs, a, b, xs, ys, ev, sx, sy, q⟩ => ?_) st pl))
  subst ev
  obtain ⟨u1, u2, eu, r1, r2⟩ := Vals.two rs
  subst eu
  cases r1
  cases r2
  obtain ⟨ks, _, pl1, _⟩ := J.list sx
  obtain ⟨ls, _, pl2, _⟩ := J.tuple sy
  have na := pl1.lt
  have nb : b < t.heap.objs.size := by
    obtain ⟨_, w, _⟩ := id pl2
    exact Heap.lt_size w
  generalize hn : t.heap.objs.size = n at na nb
  refine zip_begins2 (begins_list a ks.toArray) (begins_tuple b ls.toArray) pl1.isList pl2 fun h1 hz hI hO w1 w2 _ kp => wpAny_pyIter_zip hz ?_
  rw [hn] at hz hI hO w1 w2
  have free : ∀ c, n ≤ c → FpOk X pins G c := fun c hc => J.fpOk (hn ▸ hc) (J.hok.fresh (hn ▸ hc))
  exact ⟨n + 4, [n + 4, n + 2, n + 3, n, n + 1], _, _, G, by rw [hn], J.kept (t' := t.toks) kp, turn_zipM (zip_sep2 (fp1 := [a]) (fp2 := [b]) (fun c hc => (List.mem_singleton.mp hc) ▸ na) fun c hc => (List.mem_singleton.mp hc) ▸ nb),
    ⟨⟨hz, hI, _, _, hO⟩, ⟨_, w1, rfl, rfl⟩, ⟨_, w2, rfl, rfl⟩⟩, StM.each (free _ (Nat.le_add_right ..)) (free _ (Nat.le_add_right ..)) (free _ (Nat.le_add_right ..)) (free _ (Nat.le_refl _)) (free _ (Nat.le_add_right ..)), q⟩⟩
/-! ### tuples whose object is known: no dict of their own, so their methods are the type's -/
section
variable {X : Cx}
/-- a new tuple of xs -/
def nT (H : Hp) (xs : List V) (Q : VK) : Prop := ∀ (p : Addr) (o : Obj), H p = none → o.dict = none → Q (.ref p) (upd H p (.frz o (.tup xs)))
abbrev tupObj (vs : List Value) : Obj := { cls := .type "tuple", data := .seq vs.toArray }
/-- such a tuple, pushed behind g, is a new one to whoever asks -/
theorem nT_give {pins : List (Addr × Obj)} {σ : L2.St} {H : Hp} {s : Shared} {g : Heap} {tk : Tok} {vs : List Value} {xs : List V} {Q : VK} (J : Inv X pins σ H { s with heap := g, toks := tk }) (r : Vals xs vs) (z : xs.length ≤ sizeLine) (q : nT H xs Q) :
    EP X pins σ Q (.ref g.objs.size) { s with heap := g.push (tupObj vs), toks := tk } := by
  have at_ := Heap.get?_push_size g (o := tupObj vs) rfl
  have new := J.hok.fresh (a := g.objs.size) (Nat.le_refl _)
  refine ⟨.ref g.objs.size, _, J.laid (t' := tk) (h' := g.push (tupObj vs)) (a := g.objs.size) (o := .frz (tupObj vs) (.tup xs)) (fun _ _ e => Heap.get?_push_of_some _ e) (Nat.le_refl _) ?_, rfl, q _ _ new rfl⟩
  exact ⟨at_, z, vs, r, _, at_, rfl, _, rfl⟩
def tTupF (t : TA) : TE := fun σ H Q => t σ H fun xs H1 => xs.length ≤ sizeLine ∧ nT H1 xs Q
theorem pe_tupF {es : List Expr} {t : TA} {x1 : Nat} {pos : Pos} (h : PA X es t) : PE X (.Tuple es x1 pos) (tTupF t) :=
  ⟨fun pins s σ H Q J wish => wpAny_Tuple_spliced (thn (h.run pos pins s σ H _ J wish) fun vs t ⟨xs, G, JG, r, z, q⟩ => ⟨r.length ▸ z, nT_give (s := t) (g := t.heap) (tk := t.toks) JG r z q⟩)⟩
def rTupOfF (K : PySem.W.Frag) : List V → Hp → VK → Prop := fun xs H Q => ∃ p ys, xs = [.ref p] ∧ SqL K H p ys ∧ nT H ys Q
theorem call_tuple_ofF : CallR X (.type "tuple") (rTupOfF X.K) := fun pins s σ H _ us Q J rs ⟨p, ys, e, at_, q⟩ => by
  subst e
  obtain ⟨u, eu, ru⟩ := Vals.one rs
  subst eu
  cases ru
  obtain ⟨vs, r, pl, z⟩ := J.list at_
  have n := r.length
  exact call_tuple_list pl.isList (fun g kp => nT_give (s := s) (g := g) (tk := s.toks) (J.kept (t' := s.toks) kp) r z q) (by rw [List.size_toArray, ← n]; exact z)
def rCatF (K : PySem.W.Frag) : R2 := fun x y H Q => ∃ a b xs ys, (x = .ref a ∧ y = .ref b) ∧ (SqT K H a xs ∧ SqT K H b ys) ∧ xs.length + ys.length ≤ sizeLine ∧
  (xs = [] → Q (.ref b) H) ∧ (xs ≠ [] → ys = [] → Q (.ref a) H) ∧ (xs ≠ [] → ys ≠ [] → nT H (xs ++ ys) Q)
theorem op_catF : OpR X (binaryOp .Add) (rCatF X.K) := fun pins s σ H _ _ v u Q J rx ry ⟨a, b, xs, ys, ⟨ea, eb⟩, ⟨ta, tb⟩, z, left, right, both⟩ => by
  subst ea eb
  cases rx
  cases ry
  obtain ⟨vs, r1, p1, _⟩ := J.tuple ta
  obtain ⟨ws, r2, p2, _⟩ := J.tuple tb
  have n1 := r1.length
  have n2 := r2.length
  cases xs with
  | nil =>
    cases r1
    exact cat_tup0 p1 p2 ⟨.ref b, H, J, rfl, left rfl⟩
  | cons x xs =>
    have ne : x :: xs ≠ [] := List.cons_ne_nil _ _
    exact HT.cat_tup p1 p2 (fun e => ne (r1.nil_iff.mp e)) (fun e => ⟨.ref a, H, J, rfl, right ne (r2.nil_iff.mp e)⟩)
      (fun e => nT_give (s := s) (g := s.heap) (tk := s.toks) J (r1.append r2) (by rw [List.length_append]; exact z) (both ne fun e2 => e (r2.nil_iff.mpr e2))) (by omega)
def rSlF (K : PySem.W.Frag) : V → Option Int → Option Int → Hp → VK → Prop := fun x lo hi H Q => ∃ a xs, (x = .ref a ∧ SqT K H a xs) ∧
  (HT.sIx xs.length 0 lo = 0 ∧ HT.sIx xs.length xs.length hi = xs.length → Q (.ref a) H) ∧ (¬ (HT.sIx xs.length 0 lo = 0 ∧ HT.sIx xs.length xs.length hi = xs.length) → nT H (cutV xs lo hi) Q)
theorem sl_tupF : SlR X (rSlF X.K) := fun pins s σ H _ v vl vu lo hi sl Q J rx is pl pu ⟨a, xs, ⟨ea, ta⟩, whole, part⟩ => by
  subst ea
  cases rx
  obtain ⟨vs, r, tv, z⟩ := J.tuple ta
  have n : vs.toArray.size = xs.length := List.size_toArray.trans r.length.symm
  refine ⟨"tuple", _, PyProof.Rows.slot_tuple_getitem.lookup, tv.typeIs, ?_⟩
  rcases Classical.em (HT.sIx xs.length 0 lo = 0 ∧ HT.sIx xs.length xs.length hi = xs.length) with all | some_
  · exact getItem_tuple_whole tv is pl pu (n ▸ all) ⟨.ref a, H, J, rfl, whole all⟩
  · refine HT.getItem_tuple_cut tv is pl pu (n ▸ some_) ?_ (n ▸ z)
    rw [n]
    exact nT_give (s := s) (g := s.heap) (tk := s.toks) J ((r.drop _).take _) (Nat.le_trans (cutV_length xs lo hi) z) (part some_)
/-- t.m(e, ..) of such a tuple -/
def tTM (r : V → List V → Hp → VK → Prop) (to : TE) (t : TA) : TE := fun σ H Q => to σ H fun x H1 => (∃ a o xs, x = .ref a ∧ H1 a = some (.frz o (.tup xs)) ∧ o.dict = none) ∧ t σ H1 fun vs H2 => r x vs H2 Q
theorem pe_tm {o e : Expr} {es : List Expr} {to : TE} {t : TA} {name : Str} {ap cp : Pos} {id : String} {r : V → List V → Hp → VK → Prop} (pa : PlainAttrs "tuple") (slot : Slot "tuple" name id) (kind : typeOf (.builtin id) = pure (.type "method_descriptor")) (rule : MtR X id r) (ho : PE X o to) (ha : PA X (e :: es) t)
    (h1 : attributeBase o name X.env (eval o X.env) = eval o X.env := by rfl) (h2 : ((backTo cp (starEach (e :: es) X.env)).all (fun x => !x.1) && (backToKw cp (keywordEach [] X.env)).all (fun x => x.1.isSome) && decide ((e :: es).length + ([] : List Keyword).length + (if ([] : List Keyword).isEmpty then 0 else 1) < 30)) = true := by rfl)
    (h3 : (ap.endLine == cp.line) = true := by rfl) (h4 : starEach (e :: es) X.env = (false, eval e X.env) :: starEach es X.env := by rfl) (h5 : (backTo cp (starEach es X.env)).any (·.1) = false := by rfl) :
    PE X (.Call (.Attribute o name ap) (e :: es) [] cp) (tTM r to t) := ⟨fun pins s σ H Q J wish => by
  refine wpAny_Call_method_late h1 h2 h3 rfl (thn (ho.run pins s σ H _ J wish) fun v s1 ⟨x, G, JG, rx, ⟨a, ob, xs, ex, ga, da⟩, rest⟩ => ?_)
  subst ex
  cases rx
  obtain ⟨g, _, _, _, o2, g2, c2, _⟩ := JG.hok a _ ga
  have same : o2 = ob := Option.some.inj (g2.symm.trans g)
  rw [same] at c2
  refine ⟨"tuple", id, pa, slot, kind, ⟨ob, g, c2⟩, fun b eb => ⟨ob, by cases eb; exact g, da⟩, ?_⟩
  have args := ha.run cp pins s1 σ G _ JG rest
  rw [h4] at args ⊢
  refine Calls.callWith_builtin ?_ (Calls.evalArgs_plain (thn args fun us s2 ⟨vs, G2, J2, rs, q⟩ => rule pins s2 σ G2 (.ref a) vs (.ref a) us Q J2 rfl rs q))
  show (false || (backTo cp (starEach es X.env)).any (·.1)) = false
  rw [h5]
  rfl⟩
end
section
variable {X : Cx}
/-- range(n) as a value -/
def rRng1 : List V → Hp → VK → Prop := fun vs H Q => ∃ n, vs = [.int n] ∧ ∀ p, H p = none → Q (.ref p) (upd H p (.rng 0 n))
theorem cr_rng1 : CallR X (.type "range") rRng1 := fun pins s σ H vs us Q J rs ⟨n, e, q⟩ => by
  subst e
  obtain ⟨u, eu, t, et⟩ := Vals.one rs
  subst eu et
  exact call_range_1 ⟨.ref s.heap.objs.size, _, J.laid (t' := s.toks + 1 + 1) (o := .rng 0 n) (fun _ _ g => Heap.get?_push_of_some _ g) (Nat.le_refl _) ⟨_, _, _, Heap.get?_push_size _ rfl⟩, rfl, q _ (J.hok.fresh (Nat.le_refl _))⟩
end
end Sl

/-! The mathematics: lanes, spots, stands, moves, in plain Lean. -/
set_option autoImplicit false
namespace Sl
inductive Spot where
  | lane (p : Nat) | side (p : Nat) | out
  deriving DecidableEq, Repr
inductive Wd where
  | go | aside | on
  deriving DecidableEq, Repr
abbrev Mv := Wd × Nat
abbrev Stand := List Spot

/-- how many trains a spot holds -/
def mostAt (ln : List Int) : Spot → Int
  | .side p => ln.getD p 0
  | .lane _ => 1
  | .out => 6
def okSpot (ln : List Int) : Spot → Prop
  | .side p => p < ln.length
  | .lane p => p < ln.length
  | .out => True
structure OkLane (ln : List Int) : Prop where
  one : 1 ≤ ln.length
  most : ln.length ≤ 8
  held : ∀ x ∈ ln, 0 ≤ x ∧ x ≤ 4
structure OkStand (ln : List Int) (wy : List Bool) (S : Stand) : Prop where
  lane : OkLane ln
  one : 1 ≤ wy.length
  most : wy.length ≤ 6
  len : S.length = wy.length
  spot : ∀ s ∈ S, okSpot ln s
  room : ∀ s ∈ S, (S.count s : Int) ≤ mostAt ln s

def spotAhead (ln : List Int) (right : Bool) (p : Nat) : Spot :=
  if right then (if p + 1 < ln.length then .lane (p + 1) else .out)
  else match p with
    | 0 => .out
    | q + 1 => if q < ln.length then .lane q else .out
def hasRoom (ln : List Int) (S : Stand) (s : Spot) : Bool := decide ((S.count s : Int) < mostAt ln s)
def choices (ln : List Int) (wy : List Bool) (S : Stand) (k : Nat) : List (Mv × Spot) :=
  match S.getD k .out with
  | .out => []
  | .lane p => (if hasRoom ln S (spotAhead ln (wy.getD k true) p) then [((.go, k), spotAhead ln (wy.getD k true) p)] else []) ++ (if hasRoom ln S (.side p) then [((.aside, k), .side p)] else [])
  | .side p => if hasRoom ln S (spotAhead ln (wy.getD k true) p) then [((.on, k), spotAhead ln (wy.getD k true) p)] else []
def allowedFrom (ln : List Int) (wy : List Bool) (S : Stand) (i : Nat) : Nat → List (Mv × Spot)
  | 0 => []
  | n + 1 => choices ln wy S i ++ allowedFrom ln wy S (i + 1) n
/-- all allowed moves with the spots that they lead to -/
def allPairs (ln : List Int) (wy : List Bool) (S : Stand) : List (Mv × Spot) := (List.range S.length).flatMap fun k => choices ln wy S k
def allowed (ln : List Int) (wy : List Bool) (S : Stand) : List Mv := (allPairs ln wy S).map (·.1)
def stepsLeft (ln : List Int) (right : Bool) : Spot → Int
  | .out => 0
  | .lane p | .side p => if right then (ln.length : Int) - p else p + 1
def leftOf (ln : List Int) : List Bool → Stand → Int
  | w :: ws, s :: ss => stepsLeft ln w s + leftOf ln ws ss
  | _, _ => 0
/-- a bound of the moves that may still come -/
def weigh1 (ln : List Int) (right : Bool) : Spot → Int
  | .out => 0
  | .lane p => 2 * stepsLeft ln right (.lane p)
  | .side p => 2 * stepsLeft ln right (.side p) - 1
def weigh (ln : List Int) : List Bool → Stand → Int
  | w :: ws, s :: ss => weigh1 ln w s + weigh ln ws ss
  | _, _ => 0

theorem mem_choices {ln : List Int} {wy : List Bool} {S : Stand} {k : Nat} {m : Mv} {s : Spot} (h : (m, s) ∈ choices ln wy S k) :
    m.2 = k ∧ hasRoom ln S s = true ∧ ((∃ p, S.getD k .out = .lane p ∧ ((m.1 = .go ∧ s = spotAhead ln (wy.getD k true) p) ∨ (m.1 = .aside ∧ s = .side p))) ∨ ∃ p, S.getD k .out = .side p ∧ m.1 = .on ∧ s = spotAhead ln (wy.getD k true) p) := by
  unfold choices at h
  split at h
  · simp at h
  · rename_i p hp
    rcases List.mem_append.mp h with h | h
    · split at h
      · rename_i hr
        have e := List.mem_singleton.mp h
        cases e
        exact ⟨rfl, hr, .inl ⟨p, hp, .inl ⟨rfl, rfl⟩⟩⟩
      · simp at h
    · split at h
      · rename_i hr
        have e := List.mem_singleton.mp h
        cases e
        exact ⟨rfl, hr, .inl ⟨p, hp, .inr ⟨rfl, rfl⟩⟩⟩
      · simp at h
  · rename_i p hp
    split at h
    · rename_i hr
      have e := List.mem_singleton.mp h
      cases e
      exact ⟨rfl, hr, .inr ⟨p, hp, rfl, rfl⟩⟩
    · simp at h
theorem spotAhead_ok {ln : List Int} (r : Bool) (p : Nat) : okSpot ln (spotAhead ln r p) := by
  unfold spotAhead
  cases r with
  | true =>
    simp only [if_true]
    split
    · assumption
    · trivial
  | false =>
    simp only [Bool.false_eq_true, if_false]
    cases p with
    | zero => trivial
    | succ q =>
      simp only
      split
      · assumption
      · trivial
theorem spotAhead_notSide {ln : List Int} (r : Bool) (p q : Nat) : spotAhead ln r p ≠ .side q := by
  unfold spotAhead
  cases r with
  | true => simp only [if_true]; split <;> simp
  | false =>
    simp only [Bool.false_eq_true, if_false]
    cases p with
    | zero => simp
    | succ q => simp only; split <;> simp
theorem count_set {α : Type} [DecidableEq α] : ∀ (l : List α) (k : Nat) (a b : α), (l.set k a).count b ≤ l.count b + (if a = b then 1 else 0)
  | [], _, _, _ => by simp
  | x :: l, 0, a, b => by
    simp only [List.set_cons_zero, List.count_cons]
    by_cases h : a = b
    · subst h; simp
    · have : (a == b) = false := by simpa using h
      simp [this, h]
  | x :: l, k + 1, a, b => by
    have ih := count_set l k a b
    simp only [List.set_cons_succ, List.count_cons]
    omega
theorem getD_some {α : Type} {l : List α} {k : Nat} {d x : α} (h : l.getD k d = x) (hd : x ≠ d) : l[k]? = some x := by
  rw [List.getD_eq_getElem?_getD] at h
  cases e : l[k]? with
  | none => rw [e] at h; exact absurd h.symm hd
  | some y => rw [e] at h; simp at h; rw [h]
theorem mem_of_some {α : Type} {l : List α} {k : Nat} {x : α} (h : l[k]? = some x) : x ∈ l := List.mem_of_getElem? h
/-- behind an allowed move the stand is one -/
theorem OkStand.set {ln : List Int} {wy : List Bool} {S : Stand} {k : Nat} {m : Mv} {s : Spot} (o : OkStand ln wy S) (h : (m, s) ∈ choices ln wy S k) : OkStand ln wy (S.set k s) := by
  obtain ⟨_, hr, hw⟩ := mem_choices h
  have hs : okSpot ln s := by
    rcases hw with ⟨p, hp, ⟨_, e⟩ | ⟨_, e⟩⟩ | ⟨p, hp, _, e⟩
    · rw [e]; exact spotAhead_ok _ _
    · rw [e]
      exact (show p < ln.length from o.spot (.lane p) (mem_of_some (getD_some hp (by simp))))
    · rw [e]; exact spotAhead_ok _ _
  refine ⟨o.lane, o.one, o.most, by rw [List.length_set]; exact o.len, fun x hx => ?_, fun x hx => ?_⟩
  · rcases List.mem_or_eq_of_mem_set hx with h | h
    · exact o.spot x h
    · rw [h]; exact hs
  · have c := count_set S k s x
    have hr' : (S.count s : Int) < mostAt ln s := of_decide_eq_true hr
    by_cases e : s = x
    · subst e
      rw [if_pos rfl] at c
      have c' : ((S.set k s).count s : Int) ≤ (S.count s : Int) + 1 := by exact_mod_cast c
      omega
    · rw [if_neg e] at c
      have c' : ((S.set k s).count x : Int) ≤ (S.count x : Int) := by exact_mod_cast c
      rcases List.mem_or_eq_of_mem_set hx with h | h
      · have := o.room x h
        omega
      · exact absurd h.symm e
theorem leftOf_set {ln : List Int} : ∀ {wy : List Bool} {S : Stand} {k : Nat} {w : Bool} {s x : Spot}, wy[k]? = some w → S[k]? = some x → leftOf ln wy (S.set k s) = leftOf ln wy S - stepsLeft ln w x + stepsLeft ln w s
  | [], _, _, _, _, _, h, _ => by simp at h
  | _ :: _, [], _, _, _, _, _, h => by simp at h
  | a :: wy, b :: S, 0, w, s, x, h1, h2 => by
    simp at h1 h2
    subst h1 h2
    simp only [List.set_cons_zero, leftOf]
    omega
  | a :: wy, b :: S, k + 1, w, s, x, h1, h2 => by
    have ih := leftOf_set (ln := ln) (wy := wy) (S := S) (k := k) (w := w) (s := s) (x := x) (by simpa using h1) (by simpa using h2)
    simp only [List.set_cons_succ, leftOf, ih]
    omega
theorem weigh_set {ln : List Int} : ∀ {wy : List Bool} {S : Stand} {k : Nat} {w : Bool} {s x : Spot}, wy[k]? = some w → S[k]? = some x → weigh ln wy (S.set k s) = weigh ln wy S - weigh1 ln w x + weigh1 ln w s
  | [], _, _, _, _, _, h, _ => by simp at h
  | _ :: _, [], _, _, _, _, _, h => by simp at h
  | a :: wy, b :: S, 0, w, s, x, h1, h2 => by
    simp at h1 h2
    subst h1 h2
    simp only [List.set_cons_zero, weigh]
    omega
  | a :: wy, b :: S, k + 1, w, s, x, h1, h2 => by
    have ih := weigh_set (ln := ln) (wy := wy) (S := S) (k := k) (w := w) (s := s) (x := x) (by simpa using h1) (by simpa using h2)
    simp only [List.set_cons_succ, weigh, ih]
    omega
theorem steps_ahead {ln : List Int} {p : Nat} (r : Bool) (hp : p < ln.length) (x : Spot) (hx : x = .lane p ∨ x = .side p) : stepsLeft ln r (spotAhead ln r p) = stepsLeft ln r x - 1 := by
  have e : stepsLeft ln r x = if r then (ln.length : Int) - p else p + 1 := by
    rcases hx with h | h <;> subst h <;> rfl
  rw [e]
  unfold spotAhead
  cases r with
  | true =>
    simp only [if_true]
    split
    · simp only [stepsLeft, if_true]; omega
    · simp only [stepsLeft]; omega
  | false =>
    simp only [Bool.false_eq_true, if_false]
    cases p with
    | zero => simp [stepsLeft]
    | succ q =>
      simp only
      rw [if_pos (by omega)]
      simp only [stepsLeft, Bool.false_eq_true, if_false]
      omega
theorem weigh_ahead {ln : List Int} {p : Nat} (r : Bool) (hp : p < ln.length) : weigh1 ln r (spotAhead ln r p) = 2 * stepsLeft ln r (.lane p) - 2 := by
  have h := steps_ahead r hp (.lane p) (.inl rfl)
  generalize hg : spotAhead ln r p = s at h ⊢
  cases s with
  | lane q => simp only [weigh1]; omega
  | side q => exact absurd hg (spotAhead_notSide r p q)
  | out => simp only [weigh1]; simp only [stepsLeft] at h ⊢; omega
theorem getD_lt {α : Type} {l : List α} {k : Nat} {d : α} (h : k < l.length) : l[k]? = some (l.getD k d) := by
  rw [List.getD_eq_getElem?_getD, List.getElem?_eq_getElem h]
  rfl
theorem lt_of_some {α : Type} {l : List α} {k : Nat} {x : α} (h : l[k]? = some x) : k < l.length := (List.getElem?_eq_some_iff.mp h).1
theorem step_left {ln : List Int} {wy : List Bool} {S : Stand} {k : Nat} {m : Mv} {s : Spot} (o : OkStand ln wy S) (h : (m, s) ∈ choices ln wy S k) :
    leftOf ln wy (S.set k s) = leftOf ln wy S - (if m.1 = .aside then 0 else 1) := by
  obtain ⟨_, _, hw⟩ := mem_choices h
  rcases hw with ⟨p, hp, hq⟩ | ⟨p, hp, e1, e2⟩
  · have hx := getD_some hp (by simp)
    have hk := lt_of_some hx
    have hpl : p < ln.length := o.spot (.lane p) (mem_of_some hx)
    have hwk : wy[k]? = some (wy.getD k true) := getD_lt (by rw [← o.len]; exact hk)
    rw [leftOf_set hwk hx]
    rcases hq with ⟨e1, e2⟩ | ⟨e1, e2⟩
    · rw [e2, steps_ahead _ hpl (.lane p) (.inl rfl), e1]
      simp
      omega
    · rw [e2, e1]
      simp [stepsLeft]
  · have hx := getD_some hp (by simp)
    have hk := lt_of_some hx
    have hpl : p < ln.length := o.spot (.side p) (mem_of_some hx)
    have hwk : wy[k]? = some (wy.getD k true) := getD_lt (by rw [← o.len]; exact hk)
    rw [leftOf_set hwk hx, e2, steps_ahead _ hpl (.side p) (.inr rfl), e1]
    simp
    omega
theorem step_weigh {ln : List Int} {wy : List Bool} {S : Stand} {k : Nat} {m : Mv} {s : Spot} (o : OkStand ln wy S) (h : (m, s) ∈ choices ln wy S k) :
    weigh ln wy (S.set k s) + 1 ≤ weigh ln wy S := by
  obtain ⟨_, _, hw⟩ := mem_choices h
  rcases hw with ⟨p, hp, hq⟩ | ⟨p, hp, e1, e2⟩
  · have hx := getD_some hp (by simp)
    have hk := lt_of_some hx
    have hpl : p < ln.length := o.spot (.lane p) (mem_of_some hx)
    have hwk : wy[k]? = some (wy.getD k true) := getD_lt (by rw [← o.len]; exact hk)
    rw [weigh_set hwk hx]
    rcases hq with ⟨e1, e2⟩ | ⟨e1, e2⟩
    · rw [e2, weigh_ahead _ hpl]
      simp only [weigh1]
      omega
    · rw [e2]
      simp only [weigh1, stepsLeft]
      omega
  · have hx := getD_some hp (by simp)
    have hk := lt_of_some hx
    have hpl : p < ln.length := o.spot (.side p) (mem_of_some hx)
    have hwk : wy[k]? = some (wy.getD k true) := getD_lt (by rw [← o.len]; exact hk)
    rw [weigh_set hwk hx, e2, weigh_ahead _ hpl]
    simp only [weigh1, stepsLeft]
    omega
theorem steps_bound {ln : List Int} (r : Bool) {x : Spot} (hx : okSpot ln x) : 0 ≤ stepsLeft ln r x ∧ stepsLeft ln r x ≤ ln.length ∧ (x ≠ .out → 1 ≤ stepsLeft ln r x) := by
  cases x with
  | out => simp [stepsLeft]
  | lane p =>
    have h : p < ln.length := hx
    cases r <;> simp [stepsLeft] <;> omega
  | side p =>
    have h : p < ln.length := hx
    cases r <;> simp [stepsLeft] <;> omega
theorem weigh1_bound {ln : List Int} (r : Bool) {x : Spot} (hx : okSpot ln x) : 0 ≤ weigh1 ln r x ∧ weigh1 ln r x ≤ 2 * ln.length := by
  have h := steps_bound r hx
  cases x with
  | out => simp only [weigh1]; omega
  | lane p => simp only [weigh1]; omega
  | side p =>
    have h2 := h.2.2 (by simp)
    simp only [weigh1]; omega
theorem weigh_bound {ln : List Int} : ∀ {wy : List Bool} {S : Stand}, (∀ s ∈ S, okSpot ln s) → 0 ≤ weigh ln wy S ∧ weigh ln wy S ≤ 2 * ln.length * wy.length
  | [], _, _ => by simp [weigh]
  | w :: wy, [], _ => by
    simp only [weigh]
    have := Int.mul_nonneg (a := 2 * (ln.length : Int)) (by omega) (Int.natCast_nonneg (w :: wy).length)
    exact ⟨Int.le_refl _, this⟩
  | w :: wy, x :: S, h => by
    have h1 := weigh1_bound w (h x (by simp))
    have h2 := weigh_bound (wy := wy) (S := S) fun s hs => h s (by simp [hs])
    simp only [weigh, List.length_cons]
    have e : (2 * (ln.length : Int)) * ((wy.length + 1 : Nat) : Int) = 2 * ln.length * wy.length + 2 * ln.length := by
      rw [Int.natCast_add, Int.mul_add]; simp
    constructor
    · omega
    · rw [e]; omega
theorem weigh_least {ln : List Int} {wy : List Bool} {S : Stand} (o : OkStand ln wy S) : 0 ≤ weigh ln wy S ∧ weigh ln wy S ≤ 96 := by
  have h := weigh_bound (wy := wy) o.spot
  refine ⟨h.1, Int.le_trans h.2 ?_⟩
  have a : (ln.length : Int) ≤ 8 := by exact_mod_cast o.lane.most
  have b : (wy.length : Int) ≤ 6 := by exact_mod_cast o.most
  have c : 2 * (ln.length : Int) * wy.length ≤ 2 * 8 * wy.length := Int.mul_le_mul_of_nonneg_right (by omega) (by omega)
  omega
/-- what a stand without allowed moves is like -/
theorem stuck {ln : List Int} {wy : List Bool} {S : Stand} (o : OkStand ln wy S) (h : allPairs ln wy S = []) {k : Nat} {x : Spot} (hx : S[k]? = some x) (hn : x ≠ .out) :
    ∃ p, (x = .lane p ∨ x = .side p) ∧ (∃ g, spotAhead ln (wy.getD k true) p = .lane g ∧ (Spot.lane g) ∈ S) ∧ (x = .lane p → hasRoom ln S (.side p) = false) := by
  have hk := lt_of_some hx
  have hc : choices ln wy S k = [] := by
    have := List.flatMap_eq_nil_iff.mp h k (List.mem_range.mpr hk)
    exact this
  have hg : S.getD k .out = x := by rw [List.getD_eq_getElem?_getD, hx]; rfl
  have outroom : hasRoom ln S .out = true := by
    have h1 : S.count .out < S.length := by
      rcases Nat.lt_or_ge (S.count .out) S.length with h | h
      · exact h
      · have e : S.count .out = S.length := Nat.le_antisymm List.count_le_length h
        have a := List.count_eq_length.mp e x (mem_of_some hx)
        exact absurd a.symm hn
    have h2 := o.len
    have h3 := o.most
    refine decide_eq_true ?_
    show (S.count Spot.out : Int) < 6
    omega
  have key : ∀ p, hasRoom ln S (spotAhead ln (wy.getD k true) p) = false → ∃ g, spotAhead ln (wy.getD k true) p = .lane g ∧ (Spot.lane g) ∈ S := fun p hf => by
    generalize hs : spotAhead ln (wy.getD k true) p = s at hf
    cases s with
    | out => rw [outroom] at hf; cases hf
    | side q => exact absurd hs (spotAhead_notSide _ _ _)
    | lane g =>
      refine ⟨g, rfl, ?_⟩
      have h1 : ¬ ((S.count (Spot.lane g) : Int) < 1) := of_decide_eq_false hf
      have h2 : 0 < S.count (Spot.lane g) := by omega
      exact List.count_pos_iff.mp h2
  unfold choices at hc
  rw [hg] at hc
  cases x with
  | out => exact absurd rfl hn
  | lane p =>
    simp only at hc
    obtain ⟨c1, c2⟩ := List.append_eq_nil_iff.mp hc
    have f1 : hasRoom ln S (spotAhead ln (wy.getD k true) p) = false := by
      cases e : hasRoom ln S (spotAhead ln (wy.getD k true) p) with
      | false => rfl
      | true => rw [e, if_pos rfl] at c1; cases c1
    have f2 : hasRoom ln S (.side p) = false := by
      cases e : hasRoom ln S (.side p) with
      | false => rfl
      | true => rw [e, if_pos rfl] at c2; cases c2
    exact ⟨p, .inl rfl, key p f1, fun _ => f2⟩
  | side p =>
    simp only at hc
    have f1 : hasRoom ln S (spotAhead ln (wy.getD k true) p) = false := by
      cases e : hasRoom ln S (spotAhead ln (wy.getD k true) p) with
      | false => rfl
      | true => rw [e, if_pos rfl] at hc; cases hc
    exact ⟨p, .inr rfl, key p f1, fun e => by cases e⟩
end Sl

set_option Elab.async false
set_option linter.all false
set_option maxRecDepth 100000
set_option maxHeartbeats 4000000
/-! Words over the layer: data that never changes (Im), defs by name (FnAt, DefOk), comprehensions that only map (lc_map). -/
namespace Sl
open PySem PySem.Spec PyProof.Rows L2
/-! ### heaps -/
/-- a tuple of xs at a, without a dict of its own -/
def TupAt (H : Hp) (a : Addr) (xs : List V) : Prop := ∃ o, H a = some (.frz o (.tup xs)) ∧ o.dict = none
theorem TupAt.sq {K : PySem.W.Frag} {H : Hp} {a : Addr} {xs : List V} (h : TupAt H a xs) : SqT K H a xs := by
  obtain ⟨o, e, _⟩ := h
  exact .inl (.inr ⟨o, e⟩)
theorem TupAt.new {H : Hp} {a : Addr} {o : Obj} {xs : List V} (h : o.dict = none) : TupAt (upd H a (.frz o (.tup xs))) a xs := ⟨o, upd_same, h⟩
theorem TupAt.has {H : Hp} {a : Addr} {xs : List V} (h : TupAt H a xs) : ∃ u, H a = some u := by
  obtain ⟨o, e, _⟩ := h
  exact ⟨_, e⟩
theorem TupAt.tm {H : Hp} {a : Addr} {xs : List V} (h : TupAt H a xs) : ∃ b o ys, (V.ref a) = .ref b ∧ H b = some (.frz o (.tup ys)) ∧ o.dict = none := by
  obtain ⟨o, e, d⟩ := h
  exact ⟨a, o, xs, rfl, e, d⟩
/-- tuples stay -/
def Ti (H H' : Hp) : Prop := ∀ a xs, TupAt H a xs → TupAt H' a xs
theorem Ti.refl (H : Hp) : Ti H H := fun _ _ h => h
theorem Ti.trans {H H1 H2 : Hp} (a : Ti H H1) (b : Ti H1 H2) : Ti H H2 := fun x o h => b x o (a x o h)
theorem Ti.of {H H' : Hp} (s : Same H H') : Ti H H' := fun a xs ⟨o, e, d⟩ => ⟨o, s a _ e, d⟩
theorem Ti.lst {H : Hp} {D : Addr} {xs : List V} {o : HO} (h : H D = some (.lst xs)) : Ti H (upd H D o) := fun a ys ⟨u, e, d⟩ => ⟨u, by
  rw [upd_ne (fun z => by subst z; rw [h] at e; cases e)]
  exact e, d⟩
theorem Ti.new {H : Hp} {p : Addr} {o : HO} (h : H p = none) : Ti H (upd H p o) := fun a ys ⟨u, e, d⟩ => ⟨u, by
  rw [upd_ne (ne_of_none e h)]
  exact e, d⟩
theorem same_new {H : Hp} {p : Addr} {o : HO} (h : H p = none) : Same H (upd H p o) := fun b x e => by
  rw [upd_ne (ne_of_none e h)]
  exact e
/-- an object that the first heap does not know may change -/
theorem same_mut {H H' : Hp} {p : Addr} {o : HO} (e : Same H H') (h : H p = none) : Same H (upd H' p o) := fun a u ha => by
  rw [upd_ne (ne_of_none ha h)]
  exact e a u ha
/-! ### data that never changes -/
mutual
inductive Im (H : Hp) : V → PyData → Prop
  | non : Im H .non .none
  | bl (b : Bool) : Im H (.bl b) (.bool b)
  | int (i : Int) : Im H (.int i) (.int i)
  | str (x : Str) : Im H (.str x) (.str x)
  | tup {a : Addr} {xs : List V} {ds : List PyData} : TupAt H a xs → ImAll H xs ds → Im H (.ref a) (.tuple ds)
inductive ImAll (H : Hp) : List V → List PyData → Prop
  | nil : ImAll H [] []
  | cons {v : V} {vs : List V} {d : PyData} {ds : List PyData} : Im H v d → ImAll H vs ds → ImAll H (v :: vs) (d :: ds)
end
mutual
theorem Im.mono {H H' : Hp} (t : Ti H H') : ∀ {d : PyData} {v : V}, Im H v d → Im H' v d
  | _, _, .non => .non
  | _, _, .bl b => .bl b
  | _, _, .int i => .int i
  | _, _, .str x => .str x
  | _, _, .tup h a => .tup (t _ _ h) (ImAll.mono t a)
theorem ImAll.mono {H H' : Hp} (t : Ti H H') : ∀ {ds : List PyData} {vs : List V}, ImAll H vs ds → ImAll H' vs ds
  | _, _, .nil => .nil
  | _, _, .cons h a => .cons (Im.mono t h) (ImAll.mono t a)
end
mutual
theorem Im.dp {K : PySem.W.Frag} {H : Hp} : ∀ {d : PyData} {v : V}, Im H v d → Dp K H v d
  | _, _, .non => .non
  | _, _, .bl b => .bl b
  | _, _, .int i => .int i
  | _, _, .str x => .str x
  | _, _, .tup h a => .tup h.sq (ImAll.dp a)
theorem ImAll.dp {K : PySem.W.Frag} {H : Hp} : ∀ {ds : List PyData} {vs : List V}, ImAll H vs ds → DpAll K H vs ds
  | _, _, .nil => .nil
  | _, _, .cons h a => .cons (Im.dp h) (ImAll.dp a)
end
theorem ImAll.length {H : Hp} : ∀ {vs : List V} {ds : List PyData}, ImAll H vs ds → vs.length = ds.length
  | _, _, .nil => rfl
  | _, _, .cons _ a => by simp [ImAll.length a]
theorem ImAll.get {H : Hp} : ∀ {vs : List V} {ds : List PyData} {i : Nat} {d : PyData}, ImAll H vs ds → ds[i]? = some d → ∃ v, vs[i]? = some v ∧ Im H v d
  | _, _, _, _, .nil, e => by simp at e
  | _, _, 0, _, .cons h _, e => by simp at e; subst e; exact ⟨_, rfl, h⟩
  | _, _, i + 1, d, .cons _ a, e => by
    obtain ⟨v, h1, h2⟩ := ImAll.get (i := i) (d := d) a (by simpa using e)
    exact ⟨v, by simpa using h1, h2⟩
theorem ImAll.getV {H : Hp} : ∀ {vs : List V} {ds : List PyData} {i : Nat} {v : V}, ImAll H vs ds → vs[i]? = some v → ∃ d, ds[i]? = some d ∧ Im H v d
  | _, _, _, _, .nil, e => by simp at e
  | _, _, 0, _, .cons h _, e => by simp at e; subst e; exact ⟨_, rfl, h⟩
  | _, _, i + 1, v, .cons _ a, e => by
    obtain ⟨d, h1, h2⟩ := ImAll.getV (i := i) (v := v) a (by simpa using e)
    exact ⟨d, by simpa using h1, h2⟩
theorem ImAll.append {H : Hp} : ∀ {vs ws : List V} {ds es : List PyData}, ImAll H vs ds → ImAll H ws es → ImAll H (vs ++ ws) (ds ++ es)
  | _, _, _, _, .nil, b => b
  | _, _, _, _, .cons h a, b => .cons h (ImAll.append a b)
theorem ImAll.take {H : Hp} : ∀ {vs : List V} {ds : List PyData} (n : Nat), ImAll H vs ds → ImAll H (vs.take n) (ds.take n)
  | _, _, 0, _ => .nil
  | _, _, _ + 1, .nil => .nil
  | _, _, n + 1, .cons h a => .cons h (ImAll.take n a)
theorem ImAll.drop {H : Hp} : ∀ {vs : List V} {ds : List PyData} (n : Nat), ImAll H vs ds → ImAll H (vs.drop n) (ds.drop n)
  | _, _, 0, a => a
  | _, _, _ + 1, .nil => .nil
  | _, _, n + 1, .cons _ a => ImAll.drop n a
/-- by places -/
theorem ImAll.of {H : Hp} : ∀ {vs : List V} {ds : List PyData}, vs.length = ds.length → (∀ (i : Nat) (v : V) (d : PyData), vs[i]? = some v → ds[i]? = some d → Im H v d) → ImAll H vs ds
  | [], [], _, _ => .nil
  | [], _ :: _, h, _ => by simp at h
  | _ :: _, [], h, _ => by simp at h
  | v :: vs, d :: ds, h, f => .cons (f 0 v d rfl rfl) (ImAll.of (by simpa using h) fun i x y hx hy => f (i + 1) x y (by simpa using hx) (by simpa using hy))
/-! ### defs by name -/
section
variable {P : Program} {w : World} {K : PySem.W.Frag} {mg : Str → Option Value} {base : Heap}
/-- the def st stands at the name x -/
structure FnAt (K : PySem.W.Frag) (mg : Str → Option Value) (x : Str) (st : Stmt) (ps : List Str) : Prop where
  ex : ∃ f fd, Fun K x x st f fd ∧ mg x = some (.ref f) ∧ Binds K fd ps []
/-- the def at the name x keeps the promise sp -/
structure DefOk (P : Program) (w : World) (K : PySem.W.Frag) (mg : Str → Option Value) (base : Heap) (k : Nat) (x : Str) (ps : List Str) (sp : Sp) : Prop where
  ex : ∃ f fd, FnOk P w K mg base CX0 k f fd ps sp ∧ mg x = some (.ref f) ∧ PySem.W.keepIn K (.ref f) = true ∧ Binds K fd ps []
theorem FnAt.ok {x : Str} {st : Stmt} {N ps : List Str} {k : Nat} {sp : Sp} (F : FnAt K mg x st ps) (S : FnScope N ps (defScope st)) (len : ∀ vs H Q E, sp vs H Q E → vs.length = ps.length)
    (hbody : ∀ (f : Addr) (cdv : Value) (A : Around) (outer : List Env) (s : Shared) (H : Hp) (vs : List V) (Q : VK) (E : XK), Room k (A.deeper (envOfC x (defScope st) s.heap.objs.size f cdv)) → sp vs H Q E →
      ∃ t, PSs (cxOf CX0 P w K mg base N x (defScope st) f cdv A outer s H E).nox (defBody st) t ∧ t { nx := fun _ H' => Q .non H', rt := Q } (start N vs) H) : DefOk P w K mg base (k + 1) x ps sp := by
  obtain ⟨f, fd, F1, g, b⟩ := F.ex
  exact ⟨f, fd, F1.ok S len fun cdv A outer s H vs Q E hr h => hbody f cdv A outer s H vs Q E hr h, g, F1.kp, b⟩
theorem pe_def {X : Cx} {x : Str} {k : Nat} {ps : List Str} {sp : Sp} {e : Expr} {es : List Expr} {t : TA} {p pos : Pos} (D : DefOk X.prog X.w X.K X.mg X.base k x ps sp) (hr : Room k X.A) (ha : PA X (e :: es) t)
    (hg : Gl X x := by rfl) (hdb : (x == ("__debug__" : Str)) = false := by decide) (he : starEach (e :: es) X.env = (false, eval e X.env) :: starEach es X.env := by rfl) (hpl : (backTo pos (starEach es X.env)).any (·.1) = false := by rfl) :
    PE X (.Call (.Name x p) (e :: es) [] pos) (tCall sp [] E0 t) := by
  obtain ⟨f, fd, F, g, kp, b⟩ := D.ex
  exact pe_call F hr hg g kp b .nil pass0 ha hdb he hpl
theorem pe_cint {X : Cx} {x : Str} {i : Int} {pos : Pos} (h : ∃ t, X.mg x = some (.int i t)) (hg : Gl X x := by rfl) (hd : (x == ("__debug__" : Str)) = false := by decide) : PE X (.Name x pos) (tC (.int i)) := by
  obtain ⟨t, h⟩ := h
  exact pe_glob hg h ⟨t, rfl⟩ hd
theorem pe_ty {X : Cx} {x : Str} {T : String} {pos : Pos} (hm : X.mg x = none) (hv : bootBuiltins x = some (.type T)) (hg : Gl X x := by rfl) (hn : x ≠ "__name__" := by decide) (hd : (x == ("__debug__" : Str)) = false := by decide) : PE X (.Name x pos) (tC (.ty T)) :=
  pe_bltn hg hm hv rfl hn hd
end
/-! ### walks -/
section
variable {K : PySem.W.Frag} {a b : Addr} {xs ys : List V}
theorem walk_zipM {n : Nat} (hx : xs.length = n) (hy : ys.length = n) : Walk (ItzM K a b) n (fun H => SqL K H a xs ∧ SqT K H b ys) (YPair (fun i => xs[i]?) (fun i => ys[i]?)) where
  goes := fun i _ hi ⟨l, t⟩ => ⟨xs, ys, xs[i], ys[i], ⟨l, by simp [hx, hi]⟩, t, by simp [hy, hi]⟩
  stops := fun _ ⟨l, t⟩ => ⟨xs, ys, ⟨l, by omega⟩, ⟨t, by omega⟩, by omega⟩
  yields := fun i H v H' _ ⟨l, t⟩ ⟨T, x, z, ev, new, eH, f1, f2⟩ => ⟨T, x, z, ev, new, eH, f1 xs l, f2 ys t⟩
end
/-- what a comprehension without ifs asks, its list at D (at the start: H0) -/
abbrev LcAsk (J : It) (g : TG) (te : TE) (vs : List Nat) (σ : L2.St) (D : Addr) (H0 : Hp) (End : Hp → Prop) : Prop := ∃ Inv_ : Nat → Nat → Hp → Prop, (∃ m, Inv_ 0 m H0) ∧ ∀ i m H, Inv_ i m H → (J.stop i H ∧ End H) ∨
  (J.go i H ∧ ∃ Next : Hp → Prop, (∀ G, Next G → ∃ m', m' < m ∧ Inv_ (i + 1) m' G) ∧ ∀ x G, J.yld i H x G → g x (wipe σ vs) G fun σ2 H2 => wipe σ2 vs = wipe σ vs ∧
    tYes σ2 H2 fun b H3 => if b = true then te σ2 H3 fun y H4 => ∃ acc, H4 D = some (.lst acc) ∧ acc.length < sizeLine ∧ Next (upd H4 D (.lst (acc ++ [y]))) else Next H3)
/-- a comprehension without ifs whose element changes nothing that is known -/
theorem lc_map {J : It} {n : Nat} {G : Hp → Prop} {Y : Nat → Hp → V → Hp → Prop} (w : Walk J n G Y) {g : TG} {te : TE} {vs : List Nat} {σ : L2.St} {H1 : Hp} {D : Addr} {Qd : Hp → Prop} (E : Nat → V → Hp → Prop)
    (mono : ∀ i y H H', Ti H H' → E i y H → E i y H') (hn : n < sizeLine) (fresh : H1 D = none) (hG : ∀ H, Same H1 H → G H)
    (hs : ∀ i x H H' (k : V → Hp → Prop), i < n → Same H1 H → Y i H x H' → (∀ y H4, Same H H4 → E i y H4 → k y H4) → g x (wipe σ vs) H' fun σ2 H2 => wipe σ2 vs = wipe σ vs ∧ te σ2 H2 k)
    (hd : ∀ H ys, Same H1 H → H D = some (.lst ys) → ys.length = n → (∀ i y, ys[i]? = some y → E i y H) → Qd H) :
    LcAsk J g te vs σ D (upd H1 D (.lst [])) Qd := by
  refine lc_it w (fun i H => Same H1 H ∧ ∃ acc, H D = some (.lst acc) ∧ acc.length = i ∧ ∀ j y, acc[j]? = some y → E j y H) ⟨same_new fresh, [], upd_same, rfl, fun j y e => by simp at e⟩ (fun i H _ p => hG H p.1) (fun i x H H' hi p y => ?_) (fun H p => ?_)
  · obtain ⟨sm, acc, ea, la, el⟩ := p
    exact hs i x H H' _ hi sm y fun v H4 s4 ev => ⟨acc, s4 _ _ ea, by omega, same_mut (sm.trans s4) fresh, acc ++ [v], upd_same, by simp [la], fun j z ez => by
      have tl : Ti H4 (upd H4 D (.lst (acc ++ [v]))) := Ti.lst (s4 _ _ ea)
      by_cases hj : j < acc.length
      · rw [List.getElem?_append_left hj] at ez
        exact mono _ _ _ _ ((Ti.of s4).trans tl) (el j z ez)
      · have hj2 : j = acc.length := by
          have := (List.getElem?_eq_some_iff.mp ez).1
          simp at this
          omega
        subst hj2
        simp at ez
        subst ez
        rw [la]
        exact mono _ _ _ _ tl ev⟩
  · obtain ⟨sm, acc, ea, la, el⟩ := p
    exact hd H acc sm ea la el
end Sl
namespace Sl
open PySem PySem.Spec PyProof.Rows L2
/-- the outer for of a comprehension with two -/
theorem lc2_it {J : It} {n : Nat} {G : Hp → Prop} {Y : Nat → Hp → V → Hp → Prop} (w : Walk J n G Y) {g : TG} {vs : List Nat} {σ : L2.St} {H1 : Hp} {D : Addr} {Qd : Hp → Prop} {B : L2.St → Hp → (Hp → Prop) → Prop} (Pv : Nat → Hp → Prop)
    (h0 : Pv 0 (upd H1 D (.lst []))) (hG : ∀ i H, i ≤ n → Pv i H → G H)
    (hs : ∀ i x H H', i < n → Pv i H → Y i H x H' → g x (wipe σ vs) H' fun σ2 H2 => wipe σ2 vs = wipe σ vs ∧ tYes σ2 H2 fun b H3 => if b = true then B σ2 H3 (Pv (i + 1)) else Pv (i + 1) H3) (hd : ∀ H, Pv n H → Qd H) :
    ∃ Inv_ : Nat → Nat → Hp → Prop, (∃ m, Inv_ 0 m (upd H1 D (.lst []))) ∧ ∀ i m H, Inv_ i m H → (J.stop i H ∧ Qd H) ∨
      (J.go i H ∧ ∃ Next : Hp → Prop, (∀ G, Next G → ∃ m', m' < m ∧ Inv_ (i + 1) m' G) ∧ ∀ x G, J.yld i H x G → g x (wipe σ vs) G fun σ2 H2 => wipe σ2 vs = wipe σ vs ∧ tYes σ2 H2 fun b H3 => if b = true then B σ2 H3 Next else Next H3) := by
  refine ⟨fun i m H => (m = n - i ∧ i ≤ n) ∧ Pv i H, ⟨n, ⟨by simp, Nat.zero_le _⟩, h0⟩, ?_⟩
  rintro i m H ⟨⟨rfl, le⟩, p⟩
  rcases Nat.lt_or_eq_of_le le with lt | rfl
  · exact .inr ⟨w.goes i H lt (hG i H le p), Pv (i + 1), fun G p' => ⟨n - (i + 1), by omega, ⟨rfl, lt⟩, p'⟩, fun x G y => hs i x H G lt p (w.yields i H x G lt (hG i H le p) y)⟩
  · exact .inl ⟨w.stops H (hG _ H le p), hd H p⟩
/-- the inner one -/
theorem in_it {J : It} {n : Nat} {G : Hp → Prop} {Y : Nat → Hp → V → Hp → Prop} (w : Walk J n G Y) {g : TG} {te : TE} {vs : List Nat} {σ : L2.St} {H1 : Hp} {D : Addr} {Nx : Hp → Prop} (Pv : Nat → Hp → Prop) (h0 : Pv 0 H1) (hG : ∀ i H, i ≤ n → Pv i H → G H)
    (hs : ∀ i x H H', i < n → Pv i H → Y i H x H' → g x (wipe σ vs) H' fun σ2 H2 => wipe σ2 vs = wipe σ vs ∧ tYes σ2 H2 fun b H3 =>
      if b = true then te σ2 H3 fun y H4 => ∃ acc, H4 D = some (.lst acc) ∧ acc.length < sizeLine ∧ Pv (i + 1) (upd H4 D (.lst (acc ++ [y]))) else Pv (i + 1) H3) (hd : ∀ H, Pv n H → Nx H) :
    LcAsk J g te vs σ D H1 Nx := by
  refine ⟨fun i m H => (m = n - i ∧ i ≤ n) ∧ Pv i H, ⟨n, ⟨by simp, Nat.zero_le _⟩, h0⟩, ?_⟩
  rintro i m H ⟨⟨rfl, le⟩, p⟩
  rcases Nat.lt_or_eq_of_le le with lt | rfl
  · exact .inr ⟨w.goes i H lt (hG i H le p), Pv (i + 1), fun G p' => ⟨n - (i + 1), by omega, ⟨rfl, lt⟩, p'⟩, fun x G y => hs i x H G lt p (w.yields i H x G lt (hG i H le p) y)⟩
  · exact .inl ⟨w.stops H (hG _ H le p), hd H p⟩
/-! ### tuples made -/
section
variable {K : PySem.W.Frag} {H : Hp} {a b : Addr} {xs ys : List V} {Q : VK} {lo hi : Option Int}
theorem nT_q (q : ∀ H' p, Same H H' → TupAt H' p xs → Q (.ref p) H') : nT H xs Q := fun p o hp ho => q _ p (same_new hp) (TupAt.new ho)
theorem slF (h : TupAt H a xs) (q : ∀ H' p, Same H H' → TupAt H' p (cutV xs lo hi) → Q (.ref p) H') : rSlF K (.ref a) lo hi H Q :=
  ⟨a, xs, ⟨rfl, h.sq⟩, fun e => q H a (Same.refl H) (by
    have z : cutV xs lo hi = xs := by
      unfold cutV
      rw [e.1, e.2]
      simp
    rw [z]
    exact h), fun _ => nT_q q⟩
theorem catF (h : TupAt H a xs) (h2 : TupAt H b ys) (hz : xs.length + ys.length ≤ sizeLine) (q : ∀ H' p, Same H H' → TupAt H' p (xs ++ ys) → Q (.ref p) H') : rCatF K (.ref a) (.ref b) H Q :=
  ⟨a, b, xs, ys, ⟨rfl, rfl⟩, ⟨h.sq, h2.sq⟩, hz, fun e => q H b (Same.refl H) (by rw [e]; exact h2), fun _ e => q H a (Same.refl H) (by rw [e, List.append_nil]; exact h), fun _ _ => nT_q q⟩
theorem cut_to {k : Nat} (hk : k ≤ xs.length) : cutV xs none (some (k : Int)) = xs.take k := by
  unfold cutV
  rw [HT.sIx_none, show HT.sIx xs.length xs.length (some (k : Int)) = min k xs.length from HT.sIx_nat xs.length xs.length k]
  simp [Nat.min_eq_left hk]
theorem cut_from {k : Nat} (hk : k ≤ xs.length) : cutV xs (some (k : Int)) none = xs.drop k := by
  unfold cutV
  rw [HT.sIx_none, show HT.sIx xs.length 0 (some (k : Int)) = min k xs.length from HT.sIx_nat xs.length 0 k]
  rw [Nat.min_eq_left hk]
  exact List.take_of_length_le (Nat.le_of_eq List.length_drop)
end
theorem set_parts {α : Type} : ∀ {l : List α} {k : Nat} {x : α}, k < l.length → l.take k ++ [x] ++ l.drop (k + 1) = l.set k x
  | [], _, _, h => by simp at h
  | a :: l, 0, x, _ => by simp
  | a :: l, k + 1, x, h => by
    have ih := set_parts (l := l) (k := k) (x := x) (by simpa using h)
    simp only [List.take_succ_cons, List.cons_append, List.drop_succ_cons, List.set_cons_succ]
    rw [ih]
theorem ImAll.set {H : Hp} {v : V} {d : PyData} (hv : Im H v d) : ∀ {vs : List V} {ds : List PyData} (k : Nat), ImAll H vs ds → ImAll H (vs.set k v) (ds.set k d)
  | _, _, _, .nil => .nil
  | _, _, 0, .cons _ a => .cons hv a
  | _, _, k + 1, .cons h a => .cons h (ImAll.set hv k a)
/-- walks whose wish is told over K itself -/
theorem pi_listK {X : Cx} {tg l : Expr} {tl : TE} {K : PySem.W.Frag} (hl : PE X l tl) (hK : X.K = K := by rfl) : PI X tg l (iList K tl) := by
  subst hK
  exact pi_list hl
theorem pi_tupK {X : Cx} {tg l : Expr} {tl : TE} {K : PySem.W.Frag} (hl : PE X l tl) (hK : X.K = K := by rfl) : PI X tg l (iTup K tl) := by
  subst hK
  exact pi_tup hl
end Sl

set_option Elab.async false
set_option linter.all false
set_option maxRecDepth 100000
set_option maxHeartbeats 2000000
/-! own rules while an exception is handled: a list's end, a tuple's end, a tuple that is unpacked -/
namespace SlH
open PySem PySem.Spec PySem.Calls PyProof.Rows HotX
section
variable {prog : Program} {w : World} {A : Around} {E : Value → Shared → Prop} {s : Shared}
/-- the handled one is no iterator of two fields -/
theorem hot_ne {x1 it : Addr} {o : Obj} {h : Heap} {u v : Value} (hot : HotAt A x1 h) (ho : h.get? it = some o) (hd : o.data = .fields #[u, v]) : x1 ≠ it := by
  obtain ⟨_, o1, vs1, h1, d1, c1⟩ := hot
  rintro rfl
  rw [ho] at h1
  cases h1
  rw [hd] at d1
  cases d1
  simp at c1
theorem hot_upd {x1 it : Addr} {f : Obj → Obj} {h : Heap} (hot : HotAt A x1 h) (ne : x1 ≠ it) : HotAt A x1 (h.update it f) := by
  obtain ⟨hh, o1, vs1, h1, d1, c1⟩ := hot
  exact ⟨hh, o1, vs1, by rw [Heap.get?_update_other _ _ ne.symm]; exact h1, d1, c1⟩
theorem hot_in1 {x1 : Addr} {h : Heap} (hot : HotAt A x1 h) : HotAt A.in1 x1 h := hot
/-- StopIteration made and raised there -/
theorem stop_hot {α : Type} {x1 : Addr} {Q : α → Shared → Prop} (hot : HotAt A x1 s.heap) (hE : ∀ (a : Addr) (h' : Heap), (∀ b o, s.heap.get? b = some o → h'.get? b = some o) → (∃ o, h'.get? a = some o ∧ o.cls = .type "StopIteration") → E (.ref a) { s with heap := h' }) :
    wpAny (model prog w) A (do let e ← newExc (.type "StopIteration") []; (raiseNew e : Sem α)) Q E s := by
  refine wpAny_bind ?_
  simp only [newExc, newTuple]
  refine wpAny_bind (wpAny_newObj_type ?_ (by size_fits))
  refine wpAny_bind (m := firstArgMember _ _) (wpAny_of_eq (a := Value.none) (by first | rfl | (simp only [firstArgMember]; rfl)) ?_)
  refine wpAny_newObj_type ?_ (by size_fits)
  obtain ⟨hh, o1, vs1, h1, d1, c1⟩ := hot
  refine raiseNew_hot ⟨hh, o1, vs1, Heap.get?_push_of_some _ (Heap.get?_push_of_some _ h1), d1, c1⟩ (Nat.ne_of_lt (Heap.lt_size (Heap.get?_push_of_some _ h1))) (Heap.get?_push_size _ rfl) rfl (by first | (simp; done) | (simp; omega) | (simp only [Array.size_append]; simp; omega)) ?_
  refine hE _ _ (fun b o e => ?_) ⟨_, Heap.get?_update_self _ (Heap.get?_push_size _ rfl) rfl, rfl⟩
  rw [Heap.get?_update_other _ _ (Nat.ne_of_gt (Heap.lt_size (Heap.get?_push_of_some _ e)))]
  exact Heap.get?_push_of_some _ (Heap.get?_push_of_some _ e)
theorem list_end {x1 it l : Addr} {i : Nat} {items} {Q : Option Value → Shared → Prop} (hot : HotAt A x1 s.heap) (hit : s.heap.IsListIter it l i) (hl : s.heap.IsList l items) (hx : items[i]? = none)
    (hQ : ∀ h', Heap.ExtBut it s.heap h' → Q none { s with heap := h' }) : wpAny (model prog w) A (pyNext (.ref it)) Q E s := by
  obtain ⟨o, ho, hc, hd⟩ := id hit
  obtain ⟨ol, hol, _, nl, hdl⟩ := hl
  have ne := hot_ne hot ho hd
  unfold pyNext
  refine wpAny_bind (wpAny_attempt (wpAny_callSpecial?_slot (name := Str.ofString "__next__") hit.typeIs slot_listiter_next
    (wpAny_call_entry slot_listiter_next hit.typeIs entry_listiter_next ?_ (args_listiter_next _))))
  show wpAny _ _ (field (.ref it) 0 >>= _) _ _ s
  refine wpAny_bind (wpAny_field ho hd (x := .ref l) rfl ?_)
  show wpAny _ _ (if (Value.ref l == Value.none) = true then _ else _) _ _ s
  rw [if_neg (show ¬ ((Value.ref l == Value.none) = true) from Bool.false_ne_true)]
  show wpAny _ _ (field (.ref it) 1 >>= _) _ _ s
  refine wpAny_bind (wpAny_field ho hd (x := .int i 0) rfl ?_)
  show wpAny _ _ (seqItems? (.ref l) >>= _) _ _ s
  refine wpAny_bind (wpAny_seqItems hol hdl ?_)
  simp only [Int.toNat_natCast, hx]
  refine wpAny_bind (wpAny_rule (wpAny_bind (wpAny_setField ho hd (by simp) ?_)))
  refine stop_hot (hot_in1 (hot_upd hot ne)) fun a h' k ⟨oa, ea, ca⟩ => ?_
  refine wpAny_bind (wpAny_isInstance (T := "StopIteration") (b := true) ⟨_, ea, ca⟩ isSubtype_stop ?_)
  exact wpAny_pure (hQ _ fun b o' hb e => k b o' (by rw [Heap.get?_update_other _ _ (Ne.symm hb)]; exact e))
theorem tuple_end {x1 it t : Addr} {i : Nat} {items} {Q : Option Value → Shared → Prop} (hot : HotAt A x1 s.heap) (hit : IsTupIter s.heap it t i) (ht : IsTup s.heap t items) (hx : items[i]? = none)
    (hQ : ∀ h', Heap.ExtBut it s.heap h' → Q none { s with heap := h' }) : wpAny (model prog w) A (pyNext (.ref it)) Q E s := by
  obtain ⟨o, ho, hc, hd⟩ := id hit
  obtain ⟨ol, hol, _, nl, hdl⟩ := ht
  have ne := hot_ne hot ho hd
  unfold pyNext
  refine wpAny_bind (wpAny_attempt (wpAny_callSpecial?_slot (name := Str.ofString "__next__") hit.typeIs slot_tupleiter_next
    (wpAny_call_entry slot_tupleiter_next hit.typeIs entry_tupleiter_next ?_ (args_tupleiter_next _))))
  show wpAny _ _ (field (.ref it) 0 >>= _) _ _ s
  refine wpAny_bind (wpAny_field ho hd (x := .ref t) rfl ?_)
  show wpAny _ _ (if (Value.ref t == Value.none) = true then _ else _) _ _ s
  rw [if_neg (show ¬ ((Value.ref t == Value.none) = true) from Bool.false_ne_true)]
  show wpAny _ _ (field (.ref it) 1 >>= _) _ _ s
  refine wpAny_bind (wpAny_field ho hd (x := .int i 0) rfl ?_)
  show wpAny _ _ (seqItems? (.ref t) >>= _) _ _ s
  refine wpAny_bind (wpAny_seqItems hol hdl ?_)
  simp only [Int.toNat_natCast, hx]
  refine wpAny_bind (wpAny_rule (wpAny_bind (wpAny_setField ho hd (by simp) ?_)))
  refine stop_hot (hot_in1 (hot_upd hot ne)) fun a h' k ⟨oa, ea, ca⟩ => ?_
  refine wpAny_bind (wpAny_isInstance (T := "StopIteration") (b := true) ⟨_, ea, ca⟩ isSubtype_stop ?_)
  exact wpAny_pure (hQ _ fun b o' hb e => k b o' (by rw [Heap.get?_update_other _ _ (Ne.symm hb)]; exact e))
/-- a, b, .. = a tuple of as many -/
theorem unpack_hot {x1 : Addr} {env : Env} {elts : List Expr} {k0} {pos : Pos} {t : Addr} {items : Array Value} {Q : Unit → Shared → Prop} (hot : HotAt A x1 s.heap) (ht : IsTup s.heap t items)
    (hn : (assignEach elts env).length = items.size) (hstar : (assignEach elts env).findIdx? (·.1) = none)
    (h : ∀ h', Heap.ExtBut s.heap.objs.size s.heap h' → wpAny (model prog w) A (assignInOrder ((assignEach elts env).map (·.2)) items.toList) Q E { s with heap := h' }) :
    wpAny (model prog w) A (assign (.Tuple elts k0 pos) env (.ref t)) Q E s := by
  have hlt : t ≠ s.heap.objs.size := by obtain ⟨o, ho, _⟩ := ht; exact Nat.ne_of_lt (Heap.lt_size ho)
  rw [assign_Tuple]
  refine wpAny_bind (wpAny_standAt ?_)
  unfold unpack
  rw [hn, hstar]
  refine wpAny_bind (wpAny_holding ?_)
  unfold unpackItems notIterableAtAll
  refine wpAny_bind (wpAny_bind (wpAny_specialOf ht.typeIs slot_tuple_iter.lookup (wpAny_pure ?_)))
  simp only [Bool.false_eq_true, if_false]
  refine wpAny_bind (wpAny_holding (iter_tuple ht ?_))
  refine wpAny_bind (wpAny_holding (draw_tuple hlt items.size 0 _ _ ⟨_, Heap.get?_push_size _ rfl, rfl, rfl⟩ (ht.push _) (by omega) fun h₁ hit₁ hs₁ => ?_))
  rw [List.drop_zero, List.take_of_length_le (show items.toList.length ≤ items.size by simp), if_neg (by simp)]
  have hot1 : HotAt A x1 h₁ := by
    obtain ⟨hh, o1, vs1, e1, d1, c1⟩ := hot
    exact ⟨hh, o1, vs1, hs₁.extBut x1 o1 (Nat.ne_of_lt (Heap.lt_size e1)) (Heap.get?_push_of_some _ e1), d1, c1⟩
  refine wpAny_bind (wpAny_holding (tuple_end hot1 hit₁ ((ht.push _).extBut hs₁.extBut hlt) (by simp) fun h₂ he₂ => ?_))
  simp only [Option.isSome_none, Bool.false_eq_true, if_false]
  exact wpAny_pure (h h₂ fun b o hb e => he₂ b o hb (hs₁.extBut b o hb (Heap.get?_push_of_some _ e)))
end
end SlH

set_option Elab.async false
set_option linter.all false
set_option maxRecDepth 100000
set_option maxHeartbeats 2000000
/-! own rules while an exception is handled: unpacking, a list comprehension over a list that stays -/
namespace Sl
open PySem PySem.Spec PyProof.Rows L2 HotX L2H
section
variable {X : Cx}
theorem pg_tupH {es : List Expr} {k0 : Nat} {t : TGs} {n : Nat} {pos : Pos} (hc : HotC X) (h : PGs X es t) (hn : (assignEach es X.env).length = n := by rfl) (hst : (assignEach es X.env).findIdx? (·.1) = none := by rfl) :
    PG X (.Tuple es k0 pos) (gTup X.K n t) := ⟨fun pins s σ H v u Q I r ⟨a, xs, e, hq, hl, hw⟩ => by
  subst e
  cases r
  obtain ⟨its, rv, ht, _⟩ := I.tuple hq
  obtain ⟨x1, hot⟩ := hc.at I
  have hz := rv.length
  exact SlH.unpack_hot hot ht (by rw [hn, ← hl, hz]; simp) hst fun h' hx => h.run pins { s with heap := h' } σ H xs _ Q (I.kept (t' := s.toks) fun b o e => hx b o (Nat.ne_of_lt (Heap.lt_size e)) e) (by simpa using rv) hw⟩
/-- [elt for target in a list if ..] with the list's members said ahead; W by the turn -/
def tLcH (K : PySem.W.Frag) (tl : TE) (g : TG) (tt : TT) (te : TE) (vs : List Nat) : TE := fun σ H Q => tl σ H fun x H1 => ∃ (a : Addr) (xs : List V), x = .ref a ∧ SqL K H1 a xs ∧ ∀ D, H1 D = none → ∃ W : Nat → Hp → Prop, W 0 (upd H1 D (.lst [])) ∧ (∀ i H2, W i H2 → SqL K H2 a xs) ∧
  (∀ (i : Nat) (H2 : Hp) (y : V), xs[i]? = some y → W i H2 → g y (wipe σ vs) H2 fun σ2 H3 => wipe σ2 vs = wipe σ vs ∧ tt σ2 H3 fun b H4 =>
    if b = true then te σ2 H4 fun z H5 => ∃ acc, H5 D = some (.lst acc) ∧ acc.length < sizeLine ∧ W (i + 1) (upd H5 D (.lst (acc ++ [z]))) else W (i + 1) H4) ∧
  ∀ H2, W xs.length H2 → Q (.ref D) H2
/-- the block's context, the handled one kept in view -/
abbrev hblk (X : Cx) (s : Shared) (H : Hp) (scope : Scope) (ce : Env) (fp : List Addr) (p : Addr × Obj) : Cx := (X.blk s H scope ce fp).tr [p] fun _ _ => False
theorem hblk_hot {s : Shared} {H : Hp} {scope : Scope} {ce : Env} {fp : List Addr} {p : Addr × Obj} (hot : Hot1 X.A p) : HotC (hblk X s H scope ce fp p) := ⟨p, hot, List.mem_singleton.mpr rfl⟩
theorem pe_lcH {elt tg iter : Expr} {ifs : List Expr} {scope : Scope} {own : List (Str × Nat)} {pos : Pos} {tl : TE} {g : TG} {tt : TT} {te : TE} {K : PySem.W.Frag} (hc : HotC X) (hN : X.N.Nodup) (hl : PE X iter tl) (ok : BlkOk X.N X.env.scope scope own)
    (hg : ∀ (s : Shared) (H : Hp) (C : Addr) (cl : List (Str × Addr)) (fp : List Addr) (p : Addr × Obj), Hot1 X.A p → PG (hblk X s H scope (compEnvC scope cl C X.env) fp p) tg g)
    (ht : ∀ (s : Shared) (H : Hp) (C : Addr) (cl : List (Str × Addr)) (fp : List Addr) (p : Addr × Obj), Hot1 X.A p → PTs (hblk X s H scope (compEnvC scope cl C X.env) fp p) ifs tt)
    (he : ∀ (s : Shared) (H : Hp) (C : Addr) (cl : List (Str × Addr)) (fp : List Addr) (p : Addr × Obj), Hot1 X.A p → PE (hblk X s H scope (compEnvC scope cl C X.env) fp p) elt te) (hs : ∀ x, foldedSetIterable iter X.env x = pure x := by intro _; rfl) (hK : X.K = K := by rfl) :
    PE X (.ListComp elt [⟨tg, iter, ifs, 0⟩] scope pos) (tLcH K tl g tt te (own.map (·.2))) := by
  subst hK
  refine ⟨fun pins s σ H Q I hw => ?_⟩
  obtain ⟨p, hot, hp⟩ := hc
  rw [eval_ListComp]
  have hfree : ∀ y ∈ scope.names, y.2 = .free → ∃ c, X.env.cells.lookup y.1 = some c := fun y hy e => I.ok.has _ (ok.free y hy e)
  refine wpAny_comprehension_free (use := none) rfl hs (closure_ok hfree) ok.kind (fun y hy e => by rw [ok.uniq y hy, e]) (thn (hl.run pins s σ H _ I hw) fun v s1 ⟨x, H1, I1, r1, a, xs, ex, hq, q⟩ => ?_)
  subst ex
  cases r1
  obtain ⟨its, rv, pl, hz⟩ := I1.list hq
  refine wpAny_pyIter_list pl.isList (wpAny_newObj_type (newEnv_comp ?_) (by show 0 ≤ sizeLine; decide))
  -- the iterator, the new list, the block
  generalize hit : s1.heap.objs.size = it
  generalize hs2 : ({ s1 with heap := s1.heap.push { cls := .type "list_iterator", data := .fields #[.ref a, .int 0 0] } } : Shared) = s2
  have ltI : it < s2.heap.objs.size := by
    rw [← hs2, ← hit, Heap.size_push]
    exact Nat.lt_succ_self _
  have ex2 : s2.heap.get? it = some { cls := .type "list_iterator", data := .fields #[.ref a, .int 0 0] } := by
    rw [← hs2, ← hit]
    exact Heap.get?_push_size _ rfl
  have I2 : Inv X pins σ H1 s2 := by
    rw [← hs2]
    exact I1.kept (t' := s1.toks) fun b o e => Heap.get?_push_of_some _ e
  have f2 : FpOk X pins H1 it := by
    rw [← hit]
    exact I1.fpOk (Nat.le_refl _) (I1.hok.fresh (Nat.le_refl _))
  generalize hD : s2.heap.objs.size = D at ltI
  have hDn : H1 D = none := I2.hok.fresh (Nat.le_of_eq hD)
  obtain ⟨W, w0, wq, step, last⟩ := q D hDn
  generalize hs3 : ({ s2 with heap := s2.heap.push { cls := .type "list", data := .seq ([] : List Value).toArray } } : Shared) = s3
  have h3 : s3.heap = s2.heap.push { cls := .type "list", data := .seq ([] : List Value).toArray } := by rw [← hs3]
  have I3 : Inv X pins σ (upd H1 D (.lst [])) s3 := by
    rw [← hs3]
    refine I2.laid (t' := s2.toks) (fun b o e => Heap.get?_push_of_some _ e) (Nat.le_of_eq hD) ⟨Nat.zero_le _, [], 0, .nil, ?_⟩
    rw [← hD]
    exact Heap.get?_push_size _ rfl
  have f3 : FpOk X pins (upd H1 D (.lst [])) it := ⟨by rw [upd_ne (Nat.ne_of_lt ltI)]; exact f2.1, f2.2⟩
  have ex3 : s3.heap.get? it = some { cls := .type "list_iterator", data := .fields #[.ref a, .int 0 0] } := by
    rw [h3]
    exact Heap.get?_push_of_some _ ex2
  have B4 := block_start (fp := [it]) I3 ok hN fun b hb => by
    have e : b = it := by simpa using hb
    subst e
    exact ⟨f3, Heap.lt_size ex3⟩
  have pg := hg s3 (upd H1 D (.lst [])) s3.heap.objs.size (cellsFrom (s3.heap.objs.size + 1) scope.names (cloFrom X.env.cells scope.names [])) [it] p hot
  have pt := ht s3 (upd H1 D (.lst [])) s3.heap.objs.size (cellsFrom (s3.heap.objs.size + 1) scope.names (cloFrom X.env.cells scope.names [])) [it] p hot
  have pe := he s3 (upd H1 D (.lst [])) s3.heap.objs.size (cellsFrom (s3.heap.objs.size + 1) scope.names (cloFrom X.env.cells scope.names [])) [it] p hot
  show codeAny _ _ (.compStart (.ListComp elt [⟨tg, iter, ifs, 0⟩] scope pos) 0 (.ref it) (.ref D) (compEnvC scope (cellsFrom (s3.heap.objs.size + 1) scope.names (cloFrom X.env.cells scope.names [])) s3.heap.objs.size X.env)) (compPost (model X.prog X.w) X.A X.xe none (EP X pins σ Q) (.ref D) s3.heap.objs.size) { s3 with heap := pushCells (s3.heap.push { cls := .type "dict", data := .dict #[] }) scope.names }
  generalize hce : compEnvC scope (cellsFrom (s3.heap.objs.size + 1) scope.names (cloFrom X.env.cells scope.names [])) s3.heap.objs.size X.env = ce at B4 pg pt pe ⊢
  have cL : ce.locals = s3.heap.objs.size := by subst hce; rfl
  generalize hH3 : upd H1 D (.lst []) = H3 at I3 B4 pg pt pe w0 f3
  generalize hs4 : ({ s3 with heap := pushCells (s3.heap.push { cls := .type "dict", data := .dict #[] }) scope.names } : Shared) = s4 at B4 ⊢
  have k4 : ∀ b o, s3.heap.get? b = some o → s4.heap.get? b = some o := fun b o e => by
    rw [← hs4]
    exact pushCells_keeps _ _ _ _ (Heap.get?_push_of_some _ e)
  have P3 := I3.pin p (List.mem_append_left _ hp)
  have pit : p.1 ≠ it := f3.2.2.2.2.2 p (List.mem_append_left _ hp)
  have I4 : Inv (hblk X s3 H3 scope ce [it] p) [] (wipe σ (own.map (·.2))) H3 s4 := ⟨B4.ok.toTry _ _, B4.os, B4.bare, B4.base, B4.loc, B4.cell, B4.free, B4.freeC, fun r hr => by
    obtain rfl : r = p := by simpa using (show r ∈ [p] ++ ([] : List (Addr × Obj)) from hr)
    exact ⟨k4 _ _ P3.1, P3.2.1, by show r.1 ≠ ce.locals; rw [cL]; exact Nat.ne_of_lt (Heap.lt_size P3.1), fun hm => (List.mem_cons.mp (I3.stkSub r.1 hm)).elim P3.2.2.1 P3.2.2.2.1, P3.2.2.2.2⟩, B4.hok, B4.len⟩
  have seen : ∀ {σ' : L2.St} {H' : Hp} {s' : Shared}, Inv (hblk X s3 H3 scope ce [it] p) [] σ' H' s' → H' it = none → FpOk (hblk X s3 H3 scope ce [it] p) [] H' it := fun {σ' H' s'} I' hn =>
    ⟨hn, (I'.ok.exf it (List.mem_singleton.mpr rfl)).1, I'.ok.exfs it (List.mem_singleton.mpr rfl), .inl (List.mem_singleton.mpr rfl), fun x c e => (I'.ok.exf it (List.mem_singleton.mpr rfl)).2 x c e, fun r hr => by
      obtain rfl : r = p := by simpa using (show r ∈ [p] ++ ([] : List (Addr × Obj)) from hr)
      exact pit⟩
  have hotc : HotC (hblk X s3 H3 scope ce [it] p) := hblk_hot hot
  have loop : codeAny (model X.prog X.w) X.A (.compLoop (.ListComp elt [⟨tg, iter, ifs, 0⟩] scope pos) 0 (.ref it) (.ref D) ce) (compPost (model X.prog X.w) X.A X.xe none (EP X pins σ Q) (.ref D) s3.heap.objs.size) s4 := by
    refine compLoop_any (fun n s' => ∃ i H', n = xs.length - i ∧ i ≤ xs.length ∧ Inv (hblk X s3 H3 scope ce [it] p) [] (wipe σ (own.map (·.2))) H' s' ∧ s'.heap.IsListIter it a i ∧ H' it = none ∧ W i H') ?_ xs.length ⟨0, H3, rfl, Nat.zero_le _, I4, ⟨_, k4 _ _ ex3, rfl, rfl⟩, f3.1, w0⟩
    rintro n s5 ⟨i, H5, rfl, le, I5, st5, n5, w5⟩
    obtain ⟨its5, rv5, pl5, _⟩ := I5.list (wq i H5 w5)
    obtain ⟨g0, g1, g2, g3, g4, g5⟩ := seen I5 n5
    by_cases lt : i < xs.length
    · have hx := List.getElem?_eq_getElem lt
      obtain ⟨u, hu, ru⟩ := rv5.get hx
      refine wpAny_pyNext_list_item st5 pl5.isList (x := u) (by simpa using hu) fun h' st' sb => ?_
      have I6 : Inv (hblk X s3 H3 scope ce [it] p) [] (wipe σ (own.map (·.2))) H5 { s5 with heap := h' } := I5.turned (t' := s5.toks) (fun b o hb e => (sb.2 b hb).trans e) g0 g1 g3 g4 g5
      obtain ⟨o, e6, c6, d6⟩ := id st'
      refine go_of (s := { s5 with heap := h' }) e6 c6 d6 (by decide) ?_
      have I7 := I6.pinned (fp := [it]) (fun b hb => by
        rw [List.mem_singleton.mp hb]
        exact seen I6 n5) (fun b hb => by
        rw [List.mem_singleton.mp hb]
        exact ⟨o, e6, fun v z => by rw [d6] at z; cases z⟩)
      refine thnF (pg.run _ _ _ H5 _ u _ I7 ru (step i H5 _ hx w5)) fun _ s8 ⟨σ8, H8, I8, hw8, q8⟩ => ?_
      refine thnF (pt.run _ s8 σ8 H8 _ I8 q8) fun b s9 ⟨H9, I9, q9⟩ => ?_
      have fin : ∀ {s' : Shared} {H' : Hp}, Inv (hblk X s3 H3 scope ce [it] p) ([] ++ pinsAt [it] h') σ8 H' s' → W (i + 1) H' → ∃ m, m < xs.length - i ∧ ∃ j H'', m = xs.length - j ∧ j ≤ xs.length ∧ Inv (hblk X s3 H3 scope ce [it] p) [] (wipe σ (own.map (·.2))) H'' s' ∧ s'.heap.IsListIter it a j ∧ H'' it = none ∧ W j H'' := fun {s' H'} I' w' => by
        have z := I'.pin (it, o) (List.mem_append_right _ (List.mem_append_right _ (mem_pinsAt (List.mem_singleton.mpr rfl) e6)))
        refine ⟨xs.length - (i + 1), by omega, i + 1, H', rfl, lt, (I'.unpinned (pins := [])).weak (by rw [← hw8, wipe_length]) (fun j v e => ?_), ⟨o, z.1, c6, d6⟩, z.2.1, w'⟩
        rw [← hw8] at e
        exact (wipe_some e).1
      cases b with
      | false =>
        simp only [Bool.false_eq_true, if_false] at q9 ⊢
        exact fin I9 q9
      | true =>
        simp only [if_true] at q9 ⊢
        refine thnF (pe.run _ s9 σ8 H9 _ I9 q9) fun z s10 ⟨yv, H10, I10, r10, acc, hD10, hz10, nx⟩ => ?_
        exact app_ok (X := hblk X s3 H3 scope ce [it] p) I10 hD10 hz10 r10 fun s11 I11 => fin I11 nx
    · have ei : i = xs.length := by omega
      subst ei
      obtain ⟨x1, h1⟩ := hotc.at I5
      refine SlH.list_end h1 st5 pl5.isList (by have := rv5.length; simp; omega) fun h' eb => ?_
      have I6 : Inv (hblk X s3 H3 scope ce [it] p) [] (wipe σ (own.map (·.2))) H5 { s5 with heap := h' } := I5.turned (t' := s5.toks) (fun b o hb e => eb b o hb e) g0 g1 g3 g4 g5
      have I7 : Inv X pins σ H5 { s5 with heap := h' } := I3.call' (ch := [it]) I6.os I6.base I6.hok I6.bare fun b hb => by
        rw [List.mem_singleton.mp hb]
        exact ⟨f3.2.2.2.1, f3.2.1, f3.2.2.2.2.1, f3.2.2.2.2.2⟩
      have nC : H5 s3.heap.objs.size = none := by
        have z : H5 ce.locals = none := I6.free
        rw [cL] at z
        exact z
      obtain ⟨m, hn, _⟩ := I6.loc
      have hn : Heap.Ns h' ce.locals m := hn
      rw [cL] at hn
      obtain ⟨j0, j1, j2, j3, j4, j5⟩ := I3.fpOk (Nat.le_refl _) nC
      exact ⟨m, hn, fun h'' sb => ⟨.ref D, H5, I7.turned (t' := s5.toks) (fun b o hb e => (sb.2 b hb).trans e) j0 j1 j3 j4 j5, rfl, last H5 w5⟩⟩
  exact codeAny_compStart_list loop (wpAny_pyIter_listiter ⟨_, k4 _ _ ex3, rfl, rfl⟩ loop)
end
end Sl

set_option Elab.async false
set_option linter.all false
set_option maxRecDepth 100000
set_option maxHeartbeats 2000000
/-! own rules: a def that is handed the exception which is handled, its calls, isinstance in it -/
namespace Sl
open PySem PySem.Spec PyProof.Rows L2 HotX L2H
/-- a def's promise that may speak of the exception in hand -/
def FnP (P : Program) (w : World) (K : PySem.W.Frag) (mg : Str → Option Value) (base : Heap) (CX : CXT) (k : Nat) (f : Addr) (fd : FuncData) (ps : List Str) (sp : Addr × Obj → Sp) : Prop :=
  (∀ p vs H Q E, sp p vs H Q E → vs.length = ps.length) ∧ ∀ (p : Addr × Obj) (A : Around) (outer : List Env) (s : Shared) (H : Hp) (args : Args) (us : List Value) (vs : List V) (Q : VK) (E : XK), Hot1 A p → RoomH k A → PinOk outer H s p → Env0 P w K mg base A outer s H → BindsTo s fd args (ps.zip us) → Vals vs us → sp p vs H Q E →
    codeAny (model P w) A (.call (.ref f) args) (CR CX outer P w H s Q E) s
theorem fnP_of {CX : CXT} {P : Program} {w : World} {K : PySem.W.Frag} {mg : Str → Option Value} {base : Heap} {x qual : Str} {st : Stmt} {f : Addr} {fd : FuncData} {N ps : List Str} {k : Nat} {sp : Addr × Obj → Sp} (F : Fun K x qual st f fd) (S : FnScope N ps (defScope st))
    (len : ∀ p vs H Q E, sp p vs H Q E → vs.length = ps.length)
    (body : ∀ (p : Addr × Obj) (cdv : Value) (A : Around) (outer : List Env) (s : Shared) (H : Hp) (vs : List V) (Q : VK) (E : XK), Hot1 A p → RoomH k (A.deeper (envOfC qual (defScope st) s.heap.objs.size f cdv)) → sp p vs H Q E →
      ∃ t, PSs (cxH CX P w K mg base N qual (defScope st) f cdv A outer s H E p) (defBody st) t ∧ t { nx := fun _ H' => Q .non H', rt := Q } (L2.start N vs) H) : FnP P w K mg base CX (k + 1) f fd ps sp := by
  obtain ⟨oc, od, kV, doc, pm, an, cdv, ct, osl, rfl, lk, hcd⟩ := F.ex
  refine ⟨len, fun p A outer s H args us vs Q E hot hr pin e0 hb r hsp => ?_⟩
  have stays : ∀ b o, base.get? b = some o → s.heap.get? b = some o := fun b o e => (e0.bs b o e).1
  refine codeAny_call_function hr.depth (e0.mod.kin.keeps stays _ _ lk) rfl S.co S.gen rfl (PySem.W.codeRec_of (e0.mod.kin.keeps stays) hcd) (hb _ _ _ _ (wpAny_newFunctionEnv_cells S.kind (fun y hy => ?_) fun env he s1 y => ?_))
  · obtain ⟨n, v⟩ := y
    exact (S.par n (List.of_mem_zip hy).1).imp id fun q => ⟨q, PySem.W.cellsFrom_some _ _ _ (.inl q)⟩
  subst he
  refine ⟨(e0.mod.nolimit.keeps stays).keeps y.toInCall.keep, codeAny_func ?_⟩
  obtain ⟨t, ht, hq⟩ := body p cdv A outer s H vs Q E hot (hr.deeper _) hsp
  have I := inv_startH (CX := CX) (qual := qual) (f := f) (cd := cdv) (E := E) S pin e0 (len _ _ _ _ _ hsp) r y
  refine wpAny_mono (ht.run [] s1 _ H _ I hq) (fun fl s' hs => ?_) fun e s' hs => hs
  cases fl with
  | ret u =>
    obtain ⟨v, σ', H', J, rv, q⟩ := hs
    exact ⟨v, H', J.os, J.bare, J.base, J.hok, rv, q⟩
  | next =>
    obtain ⟨σ', H', J, q⟩ := hs
    exact ⟨.non, H', J.os, J.bare, J.base, J.hok, rfl, q⟩
  | brk => exact hs.elim fun _ z => z.elim fun _ z => z.2.elim
  | cont => exact hs.elim fun _ z => z.elim fun _ z => z.2.elim
/-- f(e, ..) while p is handled -/
theorem pe_callP {X : Cx} {CX : CXT} {k : Nat} {f : Addr} {fd : FuncData} {ps : List Str} {sp : Addr × Obj → Sp} {sp' : List V → Hp → VK → Prop} {x : Str} {q pos : Pos} {e : Expr} {es : List Expr} {t : TA} {p : Addr × Obj} (F : FnP X.prog X.w X.K X.mg X.base CX k f fd ps sp) (hr : RoomH k X.A) (hot : Hot1 X.A p) (hp : p ∈ X.pn) (hg : Gl X x) (hm : X.mg x = some (.ref f)) (hk : PySem.W.keepIn X.K (.ref f) = true) (hb : Binds X.K fd ps []) (hx : Passes CX X E0) (imp : ∀ vs H Q, sp' vs H Q → sp p vs H Q E0)
    (ha : PA X (e :: es) t) (hdb : (x == ("__debug__" : Str)) = false := by decide) (he : starEach (e :: es) X.env = (false, eval e X.env) :: starEach es X.env := by rfl) (hpl : (backTo pos (starEach es X.env)).any (·.1) = false := by rfl) :
    PE X (.Call (.Name x q) (e :: es) [] pos) (fun σ H Q => t σ H fun vs H1 => sp' vs H1 Q) := by
  refine ⟨fun pins s σ H Q I h => wpAny_Call_Name_kw (ld_glob I hg hm ?_ hdb)⟩
  refine PySem.W.callWith_K (h₀ := X.base) I.ok.mod.kin hk (thn (ha.run pos pins s σ H _ I h) fun us s1 ⟨vs, H1, I1, r, q0⟩ => ⟨I1.kIn, ?_⟩) he hpl
  have q1 := imp _ _ _ q0
  have b := hb s1 us I1.kIn (by rw [List.append_nil, ← r.length]; exact F.1 _ _ _ _ _ q1)
  rw [List.append_nil] at b
  have P1 := I1.pin p (List.mem_append_left _ hp)
  have pin : PinOk X.stack H1 s1 p := ⟨P1.1, P1.2.1, fun hm => (List.mem_cons.mp (I1.stkSub p.1 hm)).elim P1.2.2.1 P1.2.2.2.1, P1.2.2.2.2⟩
  refine wpAny_call (codeAny_mono (F.2 p X.A X.stack s1 H1 ⟨us, []⟩ us vs Q E0 hot hr pin I1.env0 b r q1) fun rr s' hq => ?_)
  cases rr with
  | error e => exact hx pins σ H1 s1 e s' I1 hq
  | ok fl =>
    cases fl with
    | ret u => exact I1.after hq
    | next => exact False.elim hq
    | brk => exact False.elim hq
    | cont => exact False.elim hq
/-- isinstance(e, c), e the exception that is kept in view -/
theorem call_isP {X : Cx} {K : PySem.W.Frag} {a D : Addr} {oe : Obj} (C : ExcC K D) (hz : Zc (.ref D) none oe) (hf : ∃ vs, oe.data = .fields vs) (hp : (a, oe) ∈ X.pn) (hK : X.K = K := by rfl) : CallR X (.builtin "isinstance") (rIsE K D a) := by
  subst hK
  intro pins s σ H xs us Q I r ⟨c, cv, b, exs, hcv, e, q⟩
  subst exs
  obtain ⟨u0, u1, rfl, rx, rt⟩ : ∃ u0 u1, us = [u0, u1] ∧ RelV (.ref a) u0 ∧ RelV c u1 := by
    cases r with
    | cons rx rr =>
      cases rr with
      | cons rt rr =>
        cases rr
        exact ⟨_, _, rfl, rx, rt⟩
  cases rx
  obtain rfl := hcv _ rt
  obtain ⟨vs, hv⟩ := hf
  have J : PySem.W.InstAt s.heap a oe D none := by
    obtain ⟨oc, od, oda, osl⟩ := oe
    obtain ⟨h1, h2⟩ := hz
    dsimp only at h1 h2 hv
    subst h1 h2 hv
    exact ⟨(I.pin _ (List.mem_append_left _ hp)).1, rfl, rfl, trivial⟩
  exact PySem.W.kia_one (PySem.W.handS_kitx_exc C.hg C.hk C.hs C.hd C.ha C.hn C.ht C.hm) I.kIn J e (fun z => nomatch z) fun tk => ⟨.bl b, H, I.kept (t' := tk) fun _ _ z => z, rfl, q⟩
end Sl

set_option Elab.async false
set_option linter.all false
set_option maxRecDepth 100000
set_option maxHeartbeats 2000000
/-! what is known of the program's own exception classes -/
namespace Sl
open PySem PySem.Spec PyProof.Rows L2
abbrev valTail : List Value := [.type "ValueError", .type "Exception", .type "BaseException", .type "object"]
/-- a class of refusals at C, below the class at L -/
structure ErrAt (K : PySem.W.Frag) (mg : Str → Option Value) (x : Str) (L C : Addr) : Prop where
  g : mg x = some (.ref C)
  e : PySem.W.excIn K C valTail "ValueError.__new__" = true
  k : PySem.W.keepIn K (.ref C) = true
  b : PySem.W.subIn K (.ref C) (.type "BaseException") = some true
  t : PySem.W.typeIn K (.ref C) = some (.type "type")
  l : PySem.W.subIn K (.ref C) (.ref L) = some true
  v : PySem.W.kitOne K (.ref C) (.type "ValueError") = some true
  c : ExcC K C
theorem kit_sub {K : PySem.W.Frag} {C D : Addr} (hd : PySem.W.hasDictIn K C = true) (ht : PySem.W.typeIn K (.ref C) = some (.type "type")) (self : PySem.W.subIn K (.ref C) (.ref C) = some true) (hs : PySem.W.subIn K (.ref D) (.ref C) = some false) : PySem.W.kitOne K (.ref D) (.ref C) = some false := by
  have ne : D ≠ C := fun e => by
    rw [e, self] at hs
    cases hs
  obtain ⟨cd, hc, _⟩ := PySem.W.any_some hd
  have e1 : ((PySem.W.clsIn K C).isSome && PySem.W.typeIn K (.ref C) == some (.type "type")) = true := by rw [hc, ht] <;> rfl
  unfold PySem.W.kitOne PySem.W.kitCls
  rw [if_neg (by simpa using ne)]
  show (if ((PySem.W.clsIn K C).isSome && PySem.W.typeIn K (.ref C) == some (.type "type")) = true then PySem.W.subIn K (.ref D) (.ref C) else none) = some false
  rw [if_pos e1]
  exact hs
theorem kit_val {K : PySem.W.Frag} {D : Addr} (hs : PySem.W.subIn K (.ref D) (.type "ValueError") = some true) : PySem.W.kitOne K (.ref D) (.type "ValueError") = some true := by
  unfold PySem.W.kitOne PySem.W.kitCls
  rw [if_neg (show ¬ ((Value.ref D == Value.type "ValueError") = true) from Bool.false_ne_true)]
  show (if PySem.W.kitMeta "ValueError" = true then PySem.W.subIn K (.ref D) (.type "ValueError") else none) = some true
  rw [if_pos (by decide +kernel)]
  exact hs
/-- which of the five a class is -/
inductive Er | lane | ways | stand | move | place
  deriving DecidableEq
def Er.at_ (cl cw cs cm cp : Addr) : Er → Addr
  | .lane => cl
  | .ways => cw
  | .stand => cs
  | .move => cm
  | .place => cp
def Er.cls : Er → Str
  | .lane => "BadLane"
  | .ways => "BadWays"
  | .stand => "BadStand"
  | .move => "NoMove"
  | .place => "NoPlace"
def Er.word : Er → Str
  | .lane => "lane"
  | .ways => "ways"
  | .stand => "stand"
  | .move => "move"
  | .place => "place"
structure Errs (K : PySem.W.Frag) (mg : Str → Option Value) (L : Addr) (C : Er → Addr) : Prop where
  gL : mg "LaneError" = some (.ref L)
  hL : PySem.W.hasDictIn K L = true
  tL : PySem.W.typeIn K (.ref L) = some (.type "type")
  bL : PySem.W.subIn K (.ref L) (.type "BaseException") = some true
  at_ : ∀ x, ErrAt K mg x.cls L (C x)
  ne : ∀ x y, x ≠ y → PySem.W.kitOne K (.ref (C x)) (.ref (C y)) = some false
theorem Errs.is {K : PySem.W.Frag} {mg : Str → Option Value} {L : Addr} {C : Er → Addr} (E : Errs K mg L C) (x y : Er) : PySem.W.kitOne K (.ref (C x)) (.ref (C y)) = some (decide (x = y)) := by
  by_cases h : x = y
  · subst h
    rw [decide_eq_true rfl]
    unfold PySem.W.kitOne
    rw [if_pos (by simp)]
  · rw [decide_eq_false h]
    exact E.ne x y h
theorem Errs.caught {K : PySem.W.Frag} {mg : Str → Option Value} {L : Addr} {C : Er → Addr} (E : Errs K mg L C) (x : Er) : PySem.W.exmOne K (.ref (C x)) (.ref L) = some true := PySem.W.exm_ref E.bL E.hL E.tL (E.at_ x).l
end Sl

set_option Elab.async false
set_option linter.all false
set_option maxRecDepth 100000
set_option maxHeartbeats 2000000
/-! defs by name that may raise where nothing is handled -/
namespace Sl
open PySem PySem.Spec PyProof.Rows L2
variable {P : Program} {w : World} {K : PySem.W.Frag} {mg : Str → Option Value} {base : Heap}
structure DefOkR (P : Program) (w : World) (K : PySem.W.Frag) (mg : Str → Option Value) (base : Heap) (k : Nat) (x : Str) (ps : List Str) (sp : Sp) : Prop where
  ex : ∃ f fd, FnOk P w K mg base (L2N.CX P w) k f fd ps sp ∧ mg x = some (.ref f) ∧ PySem.W.keepIn K (.ref f) = true ∧ Binds K fd ps []
theorem FnAt.okR {x : Str} {st : Stmt} {N ps : List Str} {k : Nat} {sp : Sp} (F : FnAt K mg x st ps) (S : FnScope N ps (defScope st)) (len : ∀ vs H Q E, sp vs H Q E → vs.length = ps.length)
    (hbody : ∀ (f : Addr) (cdv : Value) (A : Around) (outer : List Env) (s : Shared) (H : Hp) (vs : List V) (Q : VK) (E : XK), Room k (A.deeper (envOfC x (defScope st) s.heap.objs.size f cdv)) → sp vs H Q E →
      ∃ t, PSs (cxOf (L2N.CX P w) P w K mg base N x (defScope st) f cdv A outer s H E) (defBody st) t ∧ t { nx := fun _ H' => Q .non H', rt := Q } (start N vs) H) : DefOkR P w K mg base (k + 1) x ps sp := by
  obtain ⟨f, fd, F1, g, b⟩ := F.ex
  have kp := F1.kp
  obtain ⟨oc, od, kV, doc, pm, an, cdv, ct, osl, rfl, lk, hcd⟩ := F1.ex
  exact ⟨f, _, fn_of lk hcd S len fun A outer s H vs Q E hr h => hbody f cdv A outer s H vs Q E hr h, g, kp, b⟩
/-- a call in a try's body -/
theorem pe_defR {X : Cx} {W : WX} {x : Str} {k : Nat} {ps : List Str} {sp : Sp} {e : Expr} {es : List Expr} {t : TA} {p pos : Pos} (D : DefOkR X.prog X.w X.K X.mg X.base k x ps sp) (tk : L2N.Takes X W) (hr : Room k X.A) (ha : PA X (e :: es) t)
    (hg : Gl X x := by rfl) (hdb : (x == ("__debug__" : Str)) = false := by decide) (he : starEach (e :: es) X.env = (false, eval e X.env) :: starEach es X.env := by rfl) (hpl : (backTo pos (starEach es X.env)).any (·.1) = false := by rfl) :
    PE X (.Call (.Name x p) (e :: es) [] pos) (tCallS sp (WE W) t) := by
  obtain ⟨f, fd, F, g, kp, b⟩ := D.ex
  exact pe_callS F hr hg g kp b (fun σ => L2N.passAt tk σ) ha hdb he hpl
theorem passN {X : Cx} : Passes (L2N.CX X.prog X.w) X E0 := fun _ _ _ _ _ _ _ h => by
  obtain ⟨_, _, _, _, _, _, _, _, _, _, _, _, z⟩ := h
  exact z.elim
/-- a call that raises nothing -/
theorem pe_defQ {X : Cx} {x : Str} {k : Nat} {ps : List Str} {sp : Sp} {e : Expr} {es : List Expr} {t : TA} {p pos : Pos} (D : DefOkR X.prog X.w X.K X.mg X.base k x ps sp) (hr : Room k X.A) (ha : PA X (e :: es) t)
    (hg : Gl X x := by rfl) (hdb : (x == ("__debug__" : Str)) = false := by decide) (he : starEach (e :: es) X.env = (false, eval e X.env) :: starEach es X.env := by rfl) (hpl : (backTo pos (starEach es X.env)).any (·.1) = false := by rfl) :
    PE X (.Call (.Name x p) (e :: es) [] pos) (tCall sp [] E0 t) := by
  obtain ⟨f, fd, F, g, kp, b⟩ := D.ex
  exact pe_call F hr hg g kp b .nil passN ha hdb he hpl
/-- raise C('..') -/
theorem ps_err {X : Cx} {W : WX} {x m : Str} {L C : Addr} {j : Nat} {p p2 pos pos' : Pos} (er : ErrAt X.K X.mg x L C) (hc : X.calm = true) (tk : L2N.Takes X W) (hg : Gl X x := by rfl) (hdb : (x == ("__debug__" : Str)) = false := by decide) :
    PS X (.Raise (some (.Call (.Name x p) [.Constant (.str m) j p2] [] pos)) none pos') (fun _ σ H => W (.ref C) none σ H) :=
  L2N.ps_raise hc tk (L2N.pmk_own PySem.F.excBase_ValueError er.e er.g er.k (raises_own er.b er.t) hg hdb)
theorem takesN0 {X : Cx} : L2N.Takes X (fun _ _ _ _ => False) := fun _ _ x => by
  obtain ⟨_, _, _, _, _, _, _, _, _, _, _, _, _, _, _, _, z⟩ := x
  exact z.elim
/-- the error that a suite holds is the one in hand -/
theorem suite_hot {X : Cx} {a : Addr} {oe : Obj} {cls : Value} {d : Option Addr} {pn : List (Addr × Obj)} (hz : L2N.Zn cls d oe) (hf : ∃ vs, oe.data = .fields vs) : L2H.Hot1 (X.suite a ((a, oe) :: pn)).A (a, oe) := by
  obtain ⟨vs, e⟩ := hf
  exact ⟨rfl, vs, e, hz.2.2 vs e⟩
end Sl

set_option Elab.async false
set_option linter.all false
set_option maxRecDepth 100000
set_option maxHeartbeats 4000000
namespace Slx
open PySem PySem.Spec PyProof.Rows L2 Sl
def topS (i : Nat) : Stmt := PySem.Challenge.pw_sidinglane_k02_moves_allowed.main.body.getD i (.Pass ⟨0, 0, 0, 0⟩)
abbrev s_isNumber : Stmt := topS 11
theorem sc_isNumber : FnScope ["thing", "least", "most"] ["thing", "least", "most"] (defScope s_isNumber) := ⟨rfl, rfl, rfl, by decide +kernel, rfl, by decide +kernel, by decide +kernel⟩
abbrev s_isWay : Stmt := topS 12
theorem sc_isWay : FnScope ["thing"] ["thing"] (defScope s_isWay) := ⟨rfl, rfl, rfl, by decide +kernel, rfl, by decide +kernel, by decide +kernel⟩
abbrev s_needLane : Stmt := topS 13
theorem sc_needLane : FnScope ["lane", "held"] ["lane"] (defScope s_needLane) := ⟨rfl, rfl, rfl, by decide +kernel, rfl, by decide +kernel, by decide +kernel⟩
abbrev s_needWays : Stmt := topS 14
theorem sc_needWays : FnScope ["ways", "way"] ["ways"] (defScope s_needWays) := ⟨rfl, rfl, rfl, by decide +kernel, rfl, by decide +kernel, by decide +kernel⟩
abbrev s_needStand : Stmt := topS 15
theorem sc_needStand : FnScope ["lane", "ways", "stand"] ["lane", "ways", "stand"] (defScope s_needStand) := ⟨rfl, rfl, rfl, by decide +kernel, rfl, by decide +kernel, by decide +kernel⟩
abbrev s_needSpots : Stmt := topS 16
theorem sc_needSpots : FnScope ["lane", "stand", "spot"] ["lane", "stand"] (defScope s_needSpots) := ⟨rfl, rfl, rfl, by decide +kernel, rfl, by decide +kernel, by decide +kernel⟩
abbrev s_isSpot : Stmt := topS 17
theorem sc_isSpot : FnScope ["lane", "thing", "word"] ["lane", "thing"] (defScope s_isSpot) := ⟨rfl, rfl, rfl, by decide +kernel, rfl, by decide +kernel, by decide +kernel⟩
abbrev s_mostAt : Stmt := topS 18
theorem sc_mostAt : FnScope ["lane", "spot"] ["lane", "spot"] (defScope s_mostAt) := ⟨rfl, rfl, rfl, by decide +kernel, rfl, by decide +kernel, by decide +kernel⟩
abbrev s_allowed : Stmt := topS 20
theorem sc_allowed : FnScope ["lane", "ways", "stand", "train", "move", "_"] ["lane", "ways", "stand"] (defScope s_allowed) := ⟨rfl, rfl, rfl, by decide +kernel, rfl, by decide +kernel, by decide +kernel⟩
abbrev s_behind : Stmt := topS 21
theorem sc_behind : FnScope ["lane", "ways", "stand", "move", "train", "choice", "spot"] ["lane", "ways", "stand", "move"] (defScope s_behind) := ⟨rfl, rfl, rfl, by decide +kernel, rfl, by decide +kernel, by decide +kernel⟩
abbrev s_isMove : Stmt := topS 22
theorem sc_isMove : FnScope ["thing", "trains", "word", "train"] ["thing", "trains"] (defScope s_isMove) := ⟨rfl, rfl, rfl, by decide +kernel, rfl, by decide +kernel, by decide +kernel⟩
abbrev s_choices : Stmt := topS 23
theorem sc_choices : FnScope ["lane", "ways", "stand", "train", "found", "move", "spot"] ["lane", "ways", "stand", "train"] (defScope s_choices) := ⟨rfl, rfl, rfl, by decide +kernel, rfl, by decide +kernel, by decide +kernel⟩
abbrev s_tries : Stmt := topS 24
theorem sc_tries : FnScope ["lane", "way", "spot", "train", "word", "place", "ahead"] ["lane", "way", "spot", "train"] (defScope s_tries) := ⟨rfl, rfl, rfl, by decide +kernel, rfl, by decide +kernel, by decide +kernel⟩
abbrev s_spotAhead : Stmt := topS 25
theorem sc_spotAhead : FnScope ["lane", "way", "place", "ahead"] ["lane", "way", "place"] (defScope s_spotAhead) := ⟨rfl, rfl, rfl, by decide +kernel, rfl, by decide +kernel, by decide +kernel⟩
abbrev s_hasRoom : Stmt := topS 26
theorem sc_hasRoom : FnScope ["lane", "stand", "spot"] ["lane", "stand", "spot"] (defScope s_hasRoom) := ⟨rfl, rfl, rfl, by decide +kernel, rfl, by decide +kernel, by decide +kernel⟩
abbrev s_lCellAt : Stmt := topS 28
theorem sc_lCellAt : FnScope ["_law_script", "_law_k"] ["_law_script", "_law_k"] (defScope s_lCellAt) := ⟨rfl, rfl, rfl, by decide +kernel, rfl, by decide +kernel, by decide +kernel⟩
abbrev s_lWhole : Stmt := topS 29
theorem sc_lWhole : FnScope ["_law_found"] ["_law_found"] (defScope s_lWhole) := ⟨rfl, rfl, rfl, by decide +kernel, rfl, by decide +kernel, by decide +kernel⟩
abbrev s_lMixed : Stmt := topS 30
theorem sc_lMixed : FnScope ["_law_script", "_law_k", "_law_first"] ["_law_script", "_law_k"] (defScope s_lMixed) := ⟨rfl, rfl, rfl, by decide +kernel, rfl, by decide +kernel, by decide +kernel⟩
abbrev s_lSpot : Stmt := topS 31
theorem sc_lSpot : FnScope ["_law_lane", "_law_stand", "_law_cell", "_law_place", "_law_spots", "_law_k", "_law_spot_here"] ["_law_lane", "_law_stand", "_law_cell"] (defScope s_lSpot) := ⟨rfl, rfl, rfl, by decide +kernel, rfl, by decide +kernel, by decide +kernel⟩
abbrev s_lBuilt : Stmt := topS 32
theorem sc_lBuilt : FnScope ["_law_script", "_law_first", "_law_second", "_law_many", "_law_trains", "_law_rooms", "_law_k", "_law_lane", "_law_ways", "_law_stand", "_law_cell"] ["_law_script"] (defScope s_lBuilt) := ⟨rfl, rfl, rfl, by decide +kernel, rfl, by decide +kernel, by decide +kernel⟩
abbrev s_lOn : Stmt := topS 33
theorem sc_lOn : FnScope ["_law_lane", "_law_way", "_law_place", "_law_goal"] ["_law_lane", "_law_way", "_law_place"] (defScope s_lOn) := ⟨rfl, rfl, rfl, by decide +kernel, rfl, by decide +kernel, by decide +kernel⟩
abbrev s_lMoves : Stmt := topS 34
theorem sc_lMoves : FnScope ["_law_lane", "_law_ways", "_law_stand", "_law_found", "_law_k", "_law_spot_here", "_law_some", "_law_here", "_law_one", "_law_word", "_law_goal"] ["_law_lane", "_law_ways", "_law_stand"] (defScope s_lMoves) := ⟨rfl, rfl, rfl, by decide +kernel, rfl, by decide +kernel, by decide +kernel⟩
abbrev s_lKind : Stmt := topS 35
theorem sc_lKind : FnScope ["_law_e", "_law_some", "_law_word", "_law_fits"] ["_law_e"] (defScope s_lKind) := ⟨rfl, rfl, rfl, by decide +kernel, rfl, by decide +kernel, by decide +kernel⟩
abbrev s_lRefused : Stmt := topS 36
theorem sc_lRefused : FnScope ["_law_lane", "_law_ways", "_law_stand", "_law_move", "_law_e"] ["_law_lane", "_law_ways", "_law_stand", "_law_move"] (defScope s_lRefused) := ⟨rfl, rfl, rfl, by decide +kernel, rfl, by decide +kernel, by decide +kernel⟩
abbrev s_lAreMoves : Stmt := topS 37
theorem sc_lAreMoves : FnScope ["_law_found", "_law_due", "_law_one"] ["_law_found", "_law_due"] (defScope s_lAreMoves) := ⟨rfl, rfl, rfl, by decide +kernel, rfl, by decide +kernel, by decide +kernel⟩
abbrev s_lOdd : Stmt := topS 38
theorem sc_lOdd : FnScope ["_law_cell", "_law_trains", "_law_far", "_law_some"] ["_law_cell", "_law_trains"] (defScope s_lOdd) := ⟨rfl, rfl, rfl, by decide +kernel, rfl, by decide +kernel, by decide +kernel⟩
abbrev s_law : Stmt := topS 39
theorem sc_law : FnScope ["_law_script", "_law_lane", "_law_ways", "_law_stand", "_law_pairs", "_law_move", "_law_fresh", "_law_due", "_law_handed", "_law_found", "_law_told", "_law_spot_here", "_law_word", "_law_k", "_law_again"] ["_law_script"] (defScope s_law) := ⟨rfl, rfl, rfl, by decide +kernel, rfl, by decide +kernel, by decide +kernel⟩
/-- what the top has written -/
structure Txt (K : PySem.W.Frag) (mg : Str → Option Value) : Prop where
  b_ValueError : mg "ValueError" = none
  b_all : mg "all" = none
  b_any : mg "any" = none
  b_bool : mg "bool" = none
  b_int : mg "int" = none
  b_isinstance : mg "isinstance" = none
  b_len : mg "len" = none
  b_list : mg "list" = none
  b_range : mg "range" = none
  b_str : mg "str" = none
  b_tuple : mg "tuple" = none
  b_type : mg "type" = none
  c_MOST_PLACES : ∃ t, mg "MOST_PLACES" = some (.int 8 t)
  c_MOST_HELD : ∃ t, mg "MOST_HELD" = some (.int 4 t)
  c_MOST_TRAINS : ∃ t, mg "MOST_TRAINS" = some (.int 6 t)
  f_isNumber : FnAt K mg "is_number" s_isNumber ["thing", "least", "most"]
  f_isWay : FnAt K mg "is_way" s_isWay ["thing"]
  f_needLane : FnAt K mg "need_lane" s_needLane ["lane"]
  f_needWays : FnAt K mg "need_ways" s_needWays ["ways"]
  f_needStand : FnAt K mg "need_stand" s_needStand ["lane", "ways", "stand"]
  f_needSpots : FnAt K mg "need_spots" s_needSpots ["lane", "stand"]
  f_isSpot : FnAt K mg "is_spot" s_isSpot ["lane", "thing"]
  f_mostAt : FnAt K mg "most_at" s_mostAt ["lane", "spot"]
  f_allowed : FnAt K mg "allowed" s_allowed ["lane", "ways", "stand"]
  f_behind : FnAt K mg "behind" s_behind ["lane", "ways", "stand", "move"]
  f_isMove : FnAt K mg "is_move" s_isMove ["thing", "trains"]
  f_choices : FnAt K mg "choices" s_choices ["lane", "ways", "stand", "train"]
  f_tries : FnAt K mg "tries" s_tries ["lane", "way", "spot", "train"]
  f_spotAhead : FnAt K mg "spot_ahead" s_spotAhead ["lane", "way", "place"]
  f_hasRoom : FnAt K mg "has_room" s_hasRoom ["lane", "stand", "spot"]
  f_lCellAt : FnAt K mg "_law_cell_at" s_lCellAt ["_law_script", "_law_k"]
  f_lWhole : FnAt K mg "_law_whole" s_lWhole ["_law_found"]
  f_lMixed : FnAt K mg "_law_mixed" s_lMixed ["_law_script", "_law_k"]
  f_lSpot : FnAt K mg "_law_spot" s_lSpot ["_law_lane", "_law_stand", "_law_cell"]
  f_lBuilt : FnAt K mg "_law_built" s_lBuilt ["_law_script"]
  f_lOn : FnAt K mg "_law_on" s_lOn ["_law_lane", "_law_way", "_law_place"]
  f_lMoves : FnAt K mg "_law_moves" s_lMoves ["_law_lane", "_law_ways", "_law_stand"]
  f_lKind : FnAt K mg "_law_kind" s_lKind ["_law_e"]
  f_lRefused : FnAt K mg "_law_refused" s_lRefused ["_law_lane", "_law_ways", "_law_stand", "_law_move"]
  f_lAreMoves : FnAt K mg "_law_are_moves" s_lAreMoves ["_law_found", "_law_due"]
  f_lOdd : FnAt K mg "_law_odd" s_lOdd ["_law_cell", "_law_trains"]
  f_law : FnAt K mg "law" s_law ["_law_script"]
  errs : ∃ L C, Errs K mg L C
theorem hu64 {A : Around} {k : Nat} (hr : Room k A) : A.units + 64 < cLine := Nat.lt_of_le_of_lt (by omega : A.units + 64 ≤ A.units + 16 * k + 200) hr.un
theorem hu65 {A : Around} {k : Nat} (hr : Room k A) : A.units + 65 < cLine := Nat.lt_of_le_of_lt (by omega : A.units + 65 ≤ A.units + 16 * k + 200) hr.un
section
variable {P : Program} {w : World} {K : PySem.W.Frag} {mg : Str → Option Value} {base : Heap}
/-! ### numbers and ways -/
def isNum (x : V) (lo hi : Int) : Bool := match x with
  | .int i => decide (lo ≤ i) && decide (i ≤ hi)
  | _ => false
def spIsNumber (K : PySem.W.Frag) : Sp := fun vs H Q _ => ∃ x Tn lo hi, vs = [x, .int lo, .int hi] ∧ TyB K H x Tn ∧ Q (.bl (isNum x lo hi)) H
theorem isNum_ty {K : PySem.W.Frag} {H : Hp} {x : V} {Tn : String} (t : TyB K H x Tn) (lo hi : Int) : (∃ i, x = .int i ∧ Tn = "int") ∨ (Tn ≠ "int" ∧ isNum x lo hi = false) := by
  cases t with
  | int i => exact .inl ⟨i, rfl, rfl⟩
  | non | bl | str | byt => exact .inr ⟨by decide, rfl⟩
  | lst | tup | dK => exact .inr ⟨by decide, rfl⟩
theorem ok_isNumber (T : Txt K mg) : DefOk P w K mg base 1 "is_number" ["thing", "least", "most"] (spIsNumber K) := by
  refine T.f_isNumber.ok sc_isNumber (fun vs H Q E h => by obtain ⟨x, Tn, lo, hi, rfl, _⟩ := h; rfl) (fun f cdv A outer s H vs Q E hr h => ?_)
  obtain ⟨x, Tn, lo, hi, rfl, ty, q⟩ := h
  refine ⟨_, (pss_one (ps_ret (pe_and (pe_cmpR op_isTyB (pe_callTy call_type1 (by rfl) T.b_type (by decide +kernel) (pa_cons (pv 0) pa_nil)) (pe_ty (T := "int") T.b_int (by decide +kernel)) (nomark _)) (pe_one (pe_chain op_le op_le (pv 1) (pv 0) (pv 2)))))), ?_⟩
  refine ⟨x, rfl, x, Tn, rfl, ty, Tn, "int", rfl, rfl, _, rfl, ?_⟩
  rcases isNum_ty ty lo hi with ⟨i, rfl, rfl⟩ | ⟨hn, e⟩
  · refine iteT ⟨.int lo, rfl, .int i, rfl, lo, i, rfl, rfl, _, rfl, ite2 (fun h1 => ⟨.int hi, rfl, i, hi, rfl, rfl, ?_⟩) (fun h1 => ?_)⟩
    · have e : isNum (.int i) lo hi = decide (i ≤ hi) := by show (decide (lo ≤ i) && decide (i ≤ hi)) = _; rw [h1, Bool.true_and]
      rw [e] at q; exact q
    · have e : isNum (.int i) lo hi = false := by show (decide (lo ≤ i) && decide (i ≤ hi)) = _; rw [Bool.eq_false_iff.mpr h1, Bool.false_and]
      rw [e] at q; exact q
  · rw [decide_eq_false hn]
    rw [e] at q
    exact iteF q
/-! ### lanes, ways, spots in the heap -/
def wS : Bool → Str
  | true => "right"
  | false => "left"
def vS : Spot → List V
  | .lane p => [.str "lane", .int p]
  | .side p => [.str "side", .int p]
  | .out => [.str "out"]
def dS : Spot → PyData
  | .lane p => .tuple [.str "lane", .int p]
  | .side p => .tuple [.str "side", .int p]
  | .out => .tuple [.str "out"]
abbrev LaneAt (K : PySem.W.Frag) (H : Hp) (a : Addr) (ln : List Int) : Prop := SqL K H a (ln.map V.int)
abbrev WaysAt (K : PySem.W.Frag) (H : Hp) (a : Addr) (wy : List Bool) : Prop := SqL K H a (wy.map fun b => V.str (wS b))
abbrev SpotAt (H : Hp) (a : Addr) (s : Spot) : Prop := TupAt H a (vS s)
theorem SpotAt.im {H : Hp} {a : Addr} {s : Spot} (h : SpotAt H a s) : Im H (.ref a) (dS s) := by
  cases s with
  | lane p => exact .tup h (.cons (.str _) (.cons (.int _) .nil))
  | side p => exact .tup h (.cons (.str _) (.cons (.int _) .nil))
  | out => exact .tup h (.cons (.str _) .nil)
theorem im_spot {H : Hp} {v : V} {s : Spot} (h : Im H v (dS s)) : ∃ a, v = .ref a ∧ SpotAt H a s := by
  cases s with
  | lane p =>
    cases h with
    | tup e t => cases t with
      | cons h1 t => cases h1; cases t with
        | cons h2 t => cases h2; cases t; exact ⟨_, rfl, e⟩
  | side p =>
    cases h with
    | tup e t => cases t with
      | cons h1 t => cases h1; cases t with
        | cons h2 t => cases h2; cases t; exact ⟨_, rfl, e⟩
  | out =>
    cases h with
    | tup e t => cases t with
      | cons h1 t => cases h1; cases t; exact ⟨_, rfl, e⟩
/-- a stand at a -/
def StandAt (H : Hp) (a : Addr) (S : Stand) : Prop := ∃ xs, TupAt H a xs ∧ ImAll H xs (S.map dS)
theorem StandAt.mono {H H' : Hp} {a : Addr} {S : Stand} (t : Ti H H') (h : StandAt H a S) : StandAt H' a S := by
  obtain ⟨xs, e, i⟩ := h
  exact ⟨xs, t _ _ e, i.mono t⟩
theorem StandAt.im {H : Hp} {a : Addr} {S : Stand} (h : StandAt H a S) : Im H (.ref a) (.tuple (S.map dS)) := by
  obtain ⟨xs, e, i⟩ := h
  exact .tup e i
theorem StandAt.len {H : Hp} {S : Stand} {xs : List V} (i : ImAll H xs (S.map dS)) : xs.length = S.length := by
  rw [i.length, List.length_map]
theorem stand_get {H : Hp} {S : Stand} {xs : List V} (i : ImAll H xs (S.map dS)) {k : Nat} {s : Spot} (h : S[k]? = some s) : ∃ p, xs[k]? = some (.ref p) ∧ SpotAt H p s := by
  obtain ⟨v, e, m⟩ := i.get (i := k) (d := dS s) (by rw [List.getElem?_map, h]; rfl)
  obtain ⟨p, rfl, q⟩ := im_spot m
  exact ⟨p, e, q⟩
theorem stand_getV {H : Hp} {S : Stand} {xs : List V} (i : ImAll H xs (S.map dS)) {k : Nat} {v : V} (h : xs[k]? = some v) : ∃ p s, v = .ref p ∧ S[k]? = some s ∧ SpotAt H p s := by
  obtain ⟨d, e, m⟩ := i.getV h
  rw [List.getElem?_map] at e
  cases hs : S[k]? with
  | none => rw [hs] at e; cases e
  | some s =>
    rw [hs] at e
    cases e
    obtain ⟨p, rfl, q⟩ := im_spot m
    exact ⟨p, s, rfl, rfl, q⟩
theorem str_beq (x y : Str) : (x == y) = decide (x = y) := by
  by_cases h : x = y
  · subst h; simp
  · rw [decide_eq_false h]; exact beq_eq_false_iff_ne.mpr h
theorem natInt_eq (p q : Nat) : ((p : Int) == (q : Int)) = decide (p = q) := by
  by_cases h : p = q
  · subst h; simp
  · rw [decide_eq_false h]; exact beq_eq_false_iff_ne.mpr (by omega)
theorem ne_ls : ¬ (Str.ofString "lane" = Str.ofString "side") := by decide
theorem ne_sl : ¬ (Str.ofString "side" = Str.ofString "lane") := by decide
theorem eqv_spot (a b : Spot) : PyData.eqv (dS a) (dS b) = decide (a = b) := by
  cases a <;> cases b <;> simp [dS, PyData.eqv, PyData.eqvAll, natInt_eq, ne_ls, ne_sl]
theorem shaped_spot (a : Spot) : SeqAt.shaped (dS a) = true := by
  cases a <;> (simp [dS, SeqAt.shaped, PyData.canLay0, PyData.canLayAll0, PyData.depth, PyData.depthAll]; try decide +kernel)
theorem canLay_spots : ∀ S : Stand, PyData.canLayAll0 (S.map dS) = true
  | [] => rfl
  | s :: S => by
    show (PyData.canLay0 (dS s) && PyData.canLayAll0 (S.map dS)) = true
    rw [canLay_spots S, SeqAt.canLay_of_shaped (shaped_spot s)]
    rfl
theorem depth_spots : ∀ S : Stand, PyData.depthAll (S.map dS) ≤ 2
  | [] => by show 0 ≤ 2; omega
  | s :: S => by
    have h := depth_spots S
    show max (PyData.depth (dS s)) (PyData.depthAll (S.map dS)) ≤ 2
    have h1 : PyData.depth (dS s) ≤ 2 := by cases s <;> simp [dS, PyData.depth, PyData.depthAll]
    omega
theorem shaped_stand (S : Stand) : SeqAt.shaped (.tuple (S.map dS)) = true := by
  unfold SeqAt.shaped
  rw [show PyData.canLay0 (.tuple (S.map dS)) = true from canLay_spots S]
  have := depth_spots S
  have h : PyData.depth (.tuple (S.map dS)) ≤ 64 := by
    simp only [PyData.depth]; omega
  rw [decide_eq_true h]
  rfl
theorem countP_spot (S : Stand) (s : Spot) : (S.map dS).countP (fun z => PyData.eqv z (dS s)) = S.count s := by
  rw [List.countP_map]
  show S.countP _ = S.countP _
  congr 1
  funext z
  show PyData.eqv (dS z) (dS s) = (z == s)
  rw [eqv_spot]
  exact (Bool.beq_eq_decide_eq z s).symm ▸ rfl
theorem any_spot (S : Stand) (s : Spot) : ((S.map dS).any fun z => PyData.eqv z (dS s)) = decide (s ∈ S) := by
  rw [List.any_map]
  induction S with
  | nil => simp
  | cons x S ih =>
    rw [List.any_cons, ih]
    show (PyData.eqv (dS x) (dS s) || _) = _
    rw [eqv_spot]
    by_cases h : x = s
    · subst h; simp
    · have h2 : s ≠ x := fun e => h e.symm
      simp [h, h2]
end
end Slx

set_option Elab.async false
set_option linter.all false
set_option maxRecDepth 100000
set_option maxHeartbeats 4000000
namespace Slx
open PySem PySem.Spec PyProof.Rows L2 Sl
section
variable {P : Program} {w : World} {K : PySem.W.Frag} {mg : Str → Option Value} {base : Heap}
theorem iteT' {b : Bool} {A B : Prop} (e : b = true) (h : A) : if b = true then A else B := by subst e; exact iteT h
theorem iteF' {b : Bool} {A B : Prop} (e : b = false) (h : B) : if b = true then A else B := by subst e; exact iteF h
theorem two_size : 2 ≤ sizeLine := by decide
theorem one_size : 1 ≤ sizeLine := by decide
def spIsWay : Sp := fun vs H Q _ => ∃ b, vs = [.str (wS b)] ∧ ∀ H', Same H H' → Q (.bl true) H'
theorem ok_isWay (T : Txt K mg) : DefOk P w K mg base 1 "is_way" ["thing"] spIsWay := by
  refine T.f_isWay.ok sc_isWay (fun vs H Q E h => by obtain ⟨b, rfl, _⟩ := h; rfl) (fun f cdv A outer s H vs Q E hr h => ?_)
  obtain ⟨b, rfl, q⟩ := h
  refine ⟨_, (pss_one (ps_ret (pe_and (pe_cmpR op_isTyB (pe_callTy call_type1 (by rfl) T.b_type (by decide +kernel) (pa_cons (pv 0) pa_nil)) (pe_ty (T := "str") T.b_str (by decide +kernel)) (nomark _)) (pe_one (pe_cmpR (r := rIn K false) op_in_seq (pv 0) (pe_tupF (pa_cons pe_str (pa_cons pe_str pa_nil))) (by rfl)))))), ?_⟩
  refine ⟨.str (wS b), rfl, .str (wS b), "str", rfl, .str _, "str", "str", rfl, rfl, _, rfl, iteT' (decide_eq_true rfl) ⟨.str (wS b), rfl, two_size, fun p o hp ho => ⟨p, _, rfl, .inr (TupAt.new ho).sq, rfl, rfl, ?_⟩⟩⟩
  have e : (if false then !inV (.str (wS b)) [.str "right", .str "left"] else inV (.str (wS b)) [.str "right", .str "left"]) = true := by cases b <;> decide
  rw [e]
  exact q _ (same_new hp)
def spMostAt (K : PySem.W.Frag) : Sp := fun vs H Q _ => ∃ a ln p sp, vs = [.ref a, .ref p] ∧ LaneAt K H a ln ∧ SpotAt H p sp ∧ okSpot ln sp ∧ Q (.int (mostAt ln sp)) H
theorem at0 {α : Type} {x : α} {xs : List α} : atI (x :: xs) 0 = some x := atI_nat (j := 0) rfl
theorem at1 {α : Type} {x y : α} {xs : List α} : atI (x :: y :: xs) 1 = some y := atI_nat (j := 1) rfl
theorem lane_at {ln : List Int} {p : Nat} (h : p < ln.length) : atI (ln.map V.int) (p : Int) = some (.int (ln.getD p 0)) := by
  refine atI_nat ?_
  rw [List.getElem?_map, getD_lt (d := 0) h]
  rfl
theorem ok_mostAt (T : Txt K mg) : DefOk P w K mg base 1 "most_at" ["lane", "spot"] (spMostAt K) := by
  refine T.f_mostAt.ok sc_mostAt (fun vs H Q E h => by obtain ⟨a, ln, p, sp, rfl, _⟩ := h; rfl) (fun f cdv A outer s H vs Q E hr h => ?_)
  obtain ⟨a, ln, p, sp, rfl, hL, hS, ok, q⟩ := h
  refine ⟨_, (pss_cons (ps_if (pt_cmpR op_eq (pe_ix (r := rIxT K) ix_tup (pv 1) pe_int (fun _ _ => rfl)) pe_str (nomark _)) (pss_one (ps_ret (pe_ix (r := rIxL K) ix_list (pv 0) (pe_ix (r := rIxT K) ix_tup (pv 1) pe_int (fun _ _ => rfl)) (fun _ _ => rfl)))) pss_nil)
      (pss_one (ps_ret (pe_ifExp (pt_cmpR op_eq (pe_ix (r := rIxT K) ix_tup (pv 1) pe_int (fun _ _ => rfl)) pe_str (nomark _)) pe_int (pe_cint T.c_MOST_TRAINS))))), ?_⟩
  have hT : SqT K H p (vS sp) := hS.sq
  cases sp with
  | side k =>
    refine ⟨.ref p, rfl, p, _, 0, _, rfl, rfl, hT, at0, rfl, _, rfl, iteT' (decide_eq_true rfl) ?_⟩
    exact ⟨.ref a, rfl, .ref p, rfl, p, _, 1, _, rfl, rfl, hT, at1, a, _, (k : Int), _, rfl, rfl, hL, lane_at ok, q⟩
  | lane k =>
    refine ⟨.ref p, rfl, p, _, 0, _, rfl, rfl, hT, at0, rfl, _, rfl, iteF' (decide_eq_false (by decide)) ?_⟩
    exact ⟨.ref p, rfl, p, _, 0, _, rfl, rfl, hT, at0, rfl, _, rfl, iteT' (decide_eq_true rfl) q⟩
  | out =>
    refine ⟨.ref p, rfl, p, _, 0, _, rfl, rfl, hT, at0, rfl, _, rfl, iteF' (decide_eq_false (by decide)) ?_⟩
    exact ⟨.ref p, rfl, p, _, 0, _, rfl, rfl, hT, at0, rfl, _, rfl, iteF' (decide_eq_false (by decide)) q⟩
/-- a list of truths, all of one rule -/
theorem bls_of {ys : List V} {f : Nat → Bool} {n : Nat} (hl : ys.length = n) (h : ∀ (i : Nat) (y : V), ys[i]? = some y → y = V.bl (f i)) : ys = ((List.range n).map f).map V.bl := by
  refine List.ext_getElem? fun i => ?_
  by_cases hi : i < n
  · have e : ys[i]? = some (ys[i]'(by omega)) := List.getElem?_eq_getElem (by omega)
    rw [e, h i _ e]
    simp [hi]
  · rw [List.getElem?_eq_none (by omega), List.getElem?_eq_none (by simp; omega)]
theorem all_true {n : Nat} {f : Nat → Bool} (h : ∀ i, i < n → f i = true) : ((List.range n).map f).all id = true := by
  simp only [List.all_map, List.all_eq_true, List.mem_range]
  exact h
theorem any_false {n : Nat} {f : Nat → Bool} (h : ∀ i, i < n → f i = false) : ((List.range n).map f).any id = false := by
  simp only [List.any_map, List.any_eq_false, List.mem_range]
  intro i hi
  simp [h i hi]
def spNeedLane (K : PySem.W.Frag) : Sp := fun vs H Q _ => ∃ a ln, vs = [.ref a] ∧ LaneAt K H a ln ∧ OkLane ln ∧ ∀ H', Same H H' → Q (.bl true) H'
theorem ok_needLane (T : Txt K mg) : DefOk P w K mg base 2 "need_lane" ["lane"] (spNeedLane K) := by
  have D_isNumber : DefOk P w K mg base 1 "is_number" ["thing", "least", "most"] (spIsNumber K) := ok_isNumber T
  refine T.f_needLane.ok sc_needLane (fun vs H Q E h => by obtain ⟨a, ln, rfl, _⟩ := h; rfl) (fun f cdv A outer s H vs Q E hr h => ?_)
  obtain ⟨a, ln, rfl, hL, ok, q⟩ := h
  have h1 := ok.one
  have h8 := ok.most
  refine ⟨_, (pss_cons (ps_if (PW.pt (pw_or (pt_cmpR op_notTyB (pe_callTy call_type1 (by rfl) T.b_type (by decide +kernel) (pa_cons (pv 0) pa_nil)) (pe_ty (T := "list") T.b_list (by decide +kernel)) (nomark _)) (pw_or1 (pt_not (pt_chain op_le op_le pe_int (pe_callB call_len_seq (by rfl) T.b_len (by decide +kernel) (pa_cons (pv 0) pa_nil)) (pe_cint T.c_MOST_PLACES)))))) (pss_one ps_never) pss_nil)
      (pss_cons (ps_if (pt_not (pt_val (pe_callB (cr_all rfl) (by rfl) T.b_all (by decide +kernel) (pa_cons (pe_lc (g := gName 1) (own := [("held", 1)]) rfl sc_needLane.nd (pi_listK (K := K) (pv 0)) (blkOk_by (own := [("held", 1)]) (N := ["lane", "held"]) (sc := defScope s_needLane) (by decide +kernel)) (fun _ _ _ _ _ => (pg_name (i := 1) sc_needLane.nd rfl (.inl rfl))) (fun _ _ _ _ _ => pts_nil) (fun _ _ _ _ _ => (pe_def D_isNumber (hr.mono (by omega)) (pa_cons (pv 1) (pa_cons pe_int (pa_cons (pe_cint T.c_MOST_HELD) pa_nil)))))) pa_nil)))) (pss_one ps_never) pss_nil)
      (pss_one (ps_ret pe_bl)))), ?_⟩
  refine ⟨.ref a, rfl, .ref a, "list", rfl, .lst hL, "list", "list", rfl, rfl, _, rfl, iteNS rfl ?_⟩
  refine ⟨.ref a, rfl, a, _, rfl, .inl hL, 1, _, rfl, rfl, _, rfl, iteT' (decide_eq_true (by simp; omega)) ⟨_, 8, rfl, rfl, _, rfl, iteNS (by simp; omega) ?_⟩⟩
  refine ⟨.ref a, rfl, a, rfl, ⟨_, hL⟩, fun D hD => ?_⟩
  refine lc_map (walk_list (K := K) (a := a) (xs := ln.map V.int)) (fun _ y _ => y = .bl true) (fun _ _ _ _ _ e => e) (by rw [List.length_map]; exact Nat.lt_of_le_of_lt h8 (by decide)) hD (fun H' s => s.seq hL)
    (fun i x H1 H2 k hi s1 y hk => ?_) (fun H1 ys s1 e1 l1 el => ?_)
  · obtain ⟨rfl, ex⟩ := y
    rw [List.getElem?_map] at ex
    cases en : ln[i]? with
    | none => rw [en] at ex; cases ex
    | some n =>
      rw [en] at ex
      cases ex
      have hn := ok.held n (mem_of_some en)
      refine ⟨rfl, .int n, rfl, .int n, "int", 0, 4, rfl, .int n, hk _ _ (Same.refl _) ?_⟩
      show V.bl (decide (0 ≤ n) && decide (n ≤ 4)) = .bl true
      rw [decide_eq_true hn.1, decide_eq_true hn.2]
      rfl
  · have e := bls_of (f := fun _ => true) l1 el
    subst e
    refine ⟨D, _, rfl, .inl (.inl e1), _, rfl, ?_⟩
    rw [all_true (fun _ _ => rfl)]
    exact iteF (q _ s1)
def spNeedWays (K : PySem.W.Frag) : Sp := fun vs H Q _ => ∃ a wy, vs = [.ref a] ∧ WaysAt K H a wy ∧ 1 ≤ wy.length ∧ wy.length ≤ 6 ∧ ∀ H', Same H H' → Q (.bl true) H'
theorem ok_needWays (T : Txt K mg) : DefOk P w K mg base 2 "need_ways" ["ways"] (spNeedWays K) := by
  have D_isWay : DefOk P w K mg base 1 "is_way" ["thing"] spIsWay := ok_isWay T
  refine T.f_needWays.ok sc_needWays (fun vs H Q E h => by obtain ⟨a, ln, rfl, _⟩ := h; rfl) (fun f cdv A outer s H vs Q E hr h => ?_)
  obtain ⟨a, wy, rfl, hL, h1, h8, q⟩ := h
  refine ⟨_, (pss_cons (ps_if (PW.pt (pw_or (pt_cmpR op_notTyB (pe_callTy call_type1 (by rfl) T.b_type (by decide +kernel) (pa_cons (pv 0) pa_nil)) (pe_ty (T := "list") T.b_list (by decide +kernel)) (nomark _)) (pw_or1 (pt_not (pt_chain op_le op_le pe_int (pe_callB call_len_seq (by rfl) T.b_len (by decide +kernel) (pa_cons (pv 0) pa_nil)) (pe_cint T.c_MOST_TRAINS)))))) (pss_one ps_never) pss_nil)
      (pss_cons (ps_if (pt_not (pt_val (pe_callB (cr_all rfl) (by rfl) T.b_all (by decide +kernel) (pa_cons (pe_lc (g := gName 1) (own := [("way", 1)]) rfl sc_needWays.nd (pi_listK (K := K) (pv 0)) (blkOk_by (own := [("way", 1)]) (N := ["ways", "way"]) (sc := defScope s_needWays) (by decide +kernel)) (fun _ _ _ _ _ => (pg_name (i := 1) sc_needWays.nd rfl (.inl rfl))) (fun _ _ _ _ _ => pts_nil) (fun _ _ _ _ _ => (pe_def D_isWay (hr.mono (by omega)) (pa_cons (pv 1) pa_nil)))) pa_nil)))) (pss_one ps_never) pss_nil)
      (pss_one (ps_ret pe_bl)))), ?_⟩
  refine ⟨.ref a, rfl, .ref a, "list", rfl, .lst hL, "list", "list", rfl, rfl, _, rfl, iteNS rfl ?_⟩
  refine ⟨.ref a, rfl, a, _, rfl, .inl hL, 1, _, rfl, rfl, _, rfl, iteT' (decide_eq_true (by simp; omega)) ⟨_, 6, rfl, rfl, _, rfl, iteNS (by simp; omega) ?_⟩⟩
  refine ⟨.ref a, rfl, a, rfl, ⟨_, hL⟩, fun D hD => ?_⟩
  refine lc_map (walk_list (K := K) (a := a) (xs := wy.map fun b => V.str (wS b))) (fun _ y _ => y = .bl true) (fun _ _ _ _ _ e => e) (by rw [List.length_map]; exact Nat.lt_of_le_of_lt h8 (by decide)) hD (fun H' s => s.seq hL)
    (fun i x H1 H2 k hi s1 y hk => ?_) (fun H1 ys s1 e1 l1 el => ?_)
  · obtain ⟨rfl, ex⟩ := y
    rw [List.getElem?_map] at ex
    cases en : wy[i]? with
    | none => rw [en] at ex; cases ex
    | some b =>
      rw [en] at ex
      cases ex
      exact ⟨rfl, .str (wS b), rfl, b, rfl, fun H' s2 => hk _ _ s2 rfl⟩
  · have e := bls_of (f := fun _ => true) l1 el
    subst e
    refine ⟨D, _, rfl, .inl (.inl e1), _, rfl, ?_⟩
    rw [all_true (fun _ _ => rfl)]
    exact iteF (q _ s1)
def spIsSpot (K : PySem.W.Frag) : Sp := fun vs H Q _ => ∃ a ln p sp, vs = [.ref a, .ref p] ∧ LaneAt K H a ln ∧ SpotAt H p sp ∧ okSpot ln sp ∧ ∀ H', Same H H' → Q (.bl true) H'
theorem ok_isSpot (T : Txt K mg) : DefOk P w K mg base 2 "is_spot" ["lane", "thing"] (spIsSpot K) := by
  have D_isNumber : DefOk P w K mg base 1 "is_number" ["thing", "least", "most"] (spIsNumber K) := ok_isNumber T
  refine T.f_isSpot.ok sc_isSpot (fun vs H Q E h => by obtain ⟨a, ln, p, sp, rfl, _⟩ := h; rfl) (fun f cdv A outer s H vs Q E hr h => ?_)
  obtain ⟨a, ln, p, sp, rfl, hL, hS, ok, q⟩ := h
  refine ⟨_, (pss_cons (ps_if (PW.pt (pw_or (pt_cmpR op_notTyB (pe_callTy call_type1 (by rfl) T.b_type (by decide +kernel) (pa_cons (pv 1) pa_nil)) (pe_ty (T := "tuple") T.b_tuple (by decide +kernel)) (nomark _)) (pw_or1 (pt_cmpR (r := rIn K true) op_notIn_seq (pe_callB call_len_seq (by rfl) T.b_len (by decide +kernel) (pa_cons (pv 1) pa_nil)) (pe_tupF (pa_cons pe_int (pa_cons pe_int pa_nil))) (by rfl))))) (pss_one (ps_ret pe_bl)) pss_nil)
      (pss_cons (ps_set (i := 2) sc_isSpot.nd rfl (.inl rfl) (pe_ix (r := rIxT K) ix_tup (pv 1) pe_int (fun _ _ => rfl)))
      (pss_cons (ps_if (pt_cmpR op_notTyB (pe_callTy call_type1 (by rfl) T.b_type (by decide +kernel) (pa_cons (pv 2) pa_nil)) (pe_ty (T := "str") T.b_str (by decide +kernel)) (nomark _)) (pss_one (ps_ret pe_bl)) pss_nil)
      (pss_cons (ps_if (pt_cmpR op_eq (pe_callB call_len_seq (by rfl) T.b_len (by decide +kernel) (pa_cons (pv 1) pa_nil)) pe_int (nomark _)) (pss_one (ps_ret (pe_cmpR op_eq (pv 2) pe_str (nomark _)))) pss_nil)
      (pss_one (ps_ret (pe_and (pe_cmpR (r := rIn K false) op_in_seq (pv 2) (pe_tupF (pa_cons pe_str (pa_cons pe_str pa_nil))) (by rfl)) (pe_one (pe_def D_isNumber (hr.mono (by omega)) (pa_cons (pe_ix (r := rIxT K) ix_tup (pv 1) pe_int (fun _ _ => rfl)) (pa_cons pe_int (pa_cons (pe_op op_sub (pe_callB call_len_seq (by rfl) T.b_len (by decide +kernel) (pa_cons (pv 0) pa_nil)) pe_int) pa_nil)))))))))))), ?_⟩
  have hT : SqT K H p (vS sp) := hS.sq
  refine ⟨.ref p, rfl, .ref p, "tuple", rfl, .tup hT, "tuple", "tuple", rfl, rfl, _, rfl, iteNS rfl ?_⟩
  refine ⟨.ref p, rfl, p, _, rfl, .inr hT, two_size, fun t o ht ho => ⟨t, _, rfl, .inr (TupAt.new ho).sq, rfl, rfl, false, ?_, iteF ?_⟩⟩
  · cases sp <;> rfl
  have s1 : Same H (upd H t (.frz o (.tup [.int 1, .int 2]))) := same_new ht
  have hS1 : SpotAt (upd H t (.frz o (.tup [.int 1, .int 2]))) p sp := Ti.of s1 _ _ hS
  have hT1 : SqT K (upd H t (.frz o (.tup [.int 1, .int 2]))) p (vS sp) := hS1.sq
  have hL1 : LaneAt K (upd H t (.frz o (.tup [.int 1, .int 2]))) a ln := s1.seq hL
  have num : ∀ k : Nat, k < ln.length → isNum (.int (k : Int)) 0 ((ln.length : Int) - 1) = true := fun k hk => by
    show (decide ((0 : Int) ≤ k) && decide ((k : Int) ≤ ln.length - 1)) = true
    rw [decide_eq_true (by omega), decide_eq_true (by omega)]
    rfl
  cases sp with
  | out =>
    refine ⟨.ref p, rfl, p, _, 0, _, rfl, rfl, hT1, at0, ?_⟩
    refine ⟨.str "out", rfl, .str "out", "str", rfl, .str _, "str", "str", rfl, rfl, _, rfl, iteNS rfl ?_⟩
    refine ⟨.ref p, rfl, p, _, rfl, .inr hT1, rfl, _, rfl, iteT' rfl ?_⟩
    exact ⟨.str "out", rfl, rfl, q _ s1⟩
  | lane k =>
    refine ⟨.ref p, rfl, p, _, 0, _, rfl, rfl, hT1, at0, ?_⟩
    refine ⟨.str "lane", rfl, .str "lane", "str", rfl, .str _, "str", "str", rfl, rfl, _, rfl, iteNS rfl ?_⟩
    refine ⟨.ref p, rfl, p, _, rfl, .inr hT1, rfl, _, rfl, iteF' rfl ?_⟩
    refine ⟨.str "lane", rfl, two_size, fun u o2 hu ho2 => ⟨u, _, rfl, .inr (TupAt.new ho2).sq, rfl, rfl, true, by rfl, iteT ?_⟩⟩
    have s2 := s1.trans (same_new (o := .frz o2 (.tup [.str "lane", .str "side"])) hu)
    refine ⟨.ref p, rfl, p, _, 1, _, rfl, rfl, (Ti.of s2 _ _ hS).sq, at1, .ref a, rfl, a, _, rfl, .inl (s2.seq hL), (ln.map V.int).length, 1, rfl, rfl, .int (k : Int), "int", 0, ((ln.map V.int).length : Int) - 1, rfl, .int _, ?_⟩
    rw [List.length_map, num k ok]
    exact q _ s2
  | side k =>
    refine ⟨.ref p, rfl, p, _, 0, _, rfl, rfl, hT1, at0, ?_⟩
    refine ⟨.str "side", rfl, .str "side", "str", rfl, .str _, "str", "str", rfl, rfl, _, rfl, iteNS rfl ?_⟩
    refine ⟨.ref p, rfl, p, _, rfl, .inr hT1, rfl, _, rfl, iteF' rfl ?_⟩
    refine ⟨.str "side", rfl, two_size, fun u o2 hu ho2 => ⟨u, _, rfl, .inr (TupAt.new ho2).sq, rfl, rfl, true, by rfl, iteT ?_⟩⟩
    have s2 := s1.trans (same_new (o := .frz o2 (.tup [.str "lane", .str "side"])) hu)
    refine ⟨.ref p, rfl, p, _, 1, _, rfl, rfl, (Ti.of s2 _ _ hS).sq, at1, .ref a, rfl, a, _, rfl, .inl (s2.seq hL), (ln.map V.int).length, 1, rfl, rfl, .int (k : Int), "int", 0, ((ln.map V.int).length : Int) - 1, rfl, .int _, ?_⟩
    rw [List.length_map, num k ok]
    exact q _ s2
theorem stand_size {ln : List Int} {wy : List Bool} {S : Stand} {H : Hp} {xs : List V} (o : OkStand ln wy S) (i : ImAll H xs (S.map dS)) : xs.length ≤ 6 := by
  rw [StandAt.len i, o.len]
  exact o.most
/-- what is asked of a stand by itself -/
structure OkSpots (ln : List Int) (S : Stand) : Prop where
  one : 1 ≤ S.length
  most : S.length ≤ 6
  spot : ∀ s ∈ S, okSpot ln s
  room : ∀ s ∈ S, (S.count s : Int) ≤ mostAt ln s
theorem _root_.Sl.OkStand.spots {ln : List Int} {wy : List Bool} {S : Stand} (o : OkStand ln wy S) : OkSpots ln S :=
  ⟨by rw [o.len]; exact o.one, by rw [o.len]; exact o.most, o.spot, o.room⟩
def spNeedSpots (K : PySem.W.Frag) : Sp := fun vs H Q _ => ∃ a c ln S, vs = [.ref a, .ref c] ∧ LaneAt K H a ln ∧ StandAt H c S ∧ OkSpots ln S ∧ ∀ H', Same H H' → Q (.bl true) H'
theorem ok_needSpots (T : Txt K mg) : DefOk P w K mg base 3 "need_spots" ["lane", "stand"] (spNeedSpots K) := by
  have D_isSpot : DefOk P w K mg base 2 "is_spot" ["lane", "thing"] (spIsSpot K) := ok_isSpot T
  have D_mostAt : DefOk P w K mg base 1 "most_at" ["lane", "spot"] (spMostAt K) := ok_mostAt T
  refine T.f_needSpots.ok sc_needSpots (fun vs H Q E h => by obtain ⟨a, c, ln, S, rfl, _⟩ := h; rfl) (fun f cdv A outer s H vs Q E hr h => ?_)
  obtain ⟨a, c, ln, S, rfl, hL, hS, ok, q⟩ := h
  have o1 := ok.one
  have o6 := ok.most
  refine ⟨_, (pss_cons (ps_if (PW.pt (pw_or (pt_cmpR op_notTyB (pe_callTy call_type1 (by rfl) T.b_type (by decide +kernel) (pa_cons (pv 1) pa_nil)) (pe_ty (T := "tuple") T.b_tuple (by decide +kernel)) (nomark _)) (pw_or1 (pt_not (pt_chain op_le op_le pe_int (pe_callB call_len_seq (by rfl) T.b_len (by decide +kernel) (pa_cons (pv 1) pa_nil)) (pe_cint T.c_MOST_TRAINS)))))) (pss_one ps_never) pss_nil)
      (pss_cons (ps_if (pt_not (pt_val (pe_callB (cr_all rfl) (by rfl) T.b_all (by decide +kernel) (pa_cons (pe_lc (g := gName 2) (own := [("spot", 2)]) rfl sc_needSpots.nd (pi_tupK (K := K) (pv 1)) (blkOk_by (own := [("spot", 2)]) (N := ["lane", "stand", "spot"]) (sc := defScope s_needSpots) (by decide +kernel)) (fun _ _ _ _ _ => (pg_name (i := 2) sc_needSpots.nd rfl (.inl rfl))) (fun _ _ _ _ _ => pts_nil) (fun _ _ _ _ _ => (pe_def D_isSpot (hr.mono (by omega)) (pa_cons (pv 0) (pa_cons (pv 2) pa_nil))))) pa_nil)))) (pss_one ps_never) pss_nil)
      (pss_cons (ps_if (pt_val (pe_callB (cr_any rfl) (by rfl) T.b_any (by decide +kernel) (pa_cons (pe_lc (g := gName 2) (own := [("spot", 2)]) rfl sc_needSpots.nd (pi_tupK (K := K) (pv 1)) (blkOk_by (own := [("spot", 2)]) (N := ["lane", "stand", "spot"]) (sc := defScope s_needSpots) (by decide +kernel)) (fun _ _ _ _ _ => (pg_name (i := 2) sc_needSpots.nd rfl (.inl rfl))) (fun _ _ _ _ _ => pts_nil) (fun _ _ _ _ _ => (pe_cmpR op_gt (pe_tm PySem.F.plainAttrs_tuple PySem.F.slot_tuple_count PySem.F.type_tuple_count (r := rCountT K) (mt_countT (hu65 hr)) (pv 1) (pa_cons (pv 2) pa_nil)) (pe_def D_mostAt (hr.mono (by omega)) (pa_cons (pv 0) (pa_cons (pv 2) pa_nil))) (nomark _)))) pa_nil))) (pss_one ps_never) pss_nil)
      (pss_one (ps_ret pe_bl))))), ?_⟩
  obtain ⟨xs, ec, im⟩ := hS
  have hT2 : SqT K H c xs := ec.sq
  have zl := StandAt.len im
  have z6 : xs.length ≤ 6 := by omega
  refine ⟨.ref c, rfl, .ref c, "tuple", rfl, .tup hT2, "tuple", "tuple", rfl, rfl, _, rfl, iteNS rfl ?_⟩
  refine ⟨.ref c, rfl, c, _, rfl, .inr hT2, 1, _, rfl, rfl, _, rfl, iteT' (decide_eq_true (by omega)) ⟨_, 6, rfl, rfl, _, rfl, iteNS (by omega) ?_⟩⟩
  refine ⟨.ref c, rfl, c, rfl, ⟨_, hT2⟩, fun D hD => ?_⟩
  refine lc_map (walk_tup (K := K) (a := c) (xs := xs)) (fun _ y _ => y = .bl true) (fun _ _ _ _ _ e => e) (Nat.lt_of_le_of_lt z6 (by decide)) hD (fun H' s3 => (Ti.of s3 _ _ ec).sq)
    (fun i x H3 H4 k hi s3 y hk => ?_) (fun H3 ys s3 e3 l3 el => ?_)
  · obtain ⟨rfl, ex⟩ := y
    obtain ⟨p, sp, rfl, es, hs⟩ := stand_getV im ex
    exact ⟨rfl, .ref a, rfl, .ref p, rfl, a, ln, p, sp, rfl, s3.seq hL, Ti.of s3 _ _ hs, ok.spot sp (mem_of_some es), fun H' s4 => hk _ _ s4 rfl⟩
  have e := bls_of (f := fun _ => true) l3 el
  subst e
  refine ⟨D, _, rfl, .inl (.inl e3), _, rfl, ?_⟩
  rw [all_true (fun _ _ => rfl)]
  refine iteF ?_
  have hT3 : SqT K H3 c xs := (Ti.of s3 _ _ ec).sq
  refine ⟨.ref c, rfl, c, rfl, ⟨_, hT3⟩, fun D2 hD2 => ?_⟩
  refine lc_map (walk_tup (K := K) (a := c) (xs := xs)) (fun _ y _ => y = .bl false) (fun _ _ _ _ _ e => e) (Nat.lt_of_le_of_lt z6 (by decide)) hD2 (fun H' s4 => (Ti.of (s3.trans s4) _ _ ec).sq)
    (fun i x H4 H5 k hi s4 y hk => ?_) (fun H4 ys s4 e4 l4 el2 => ?_)
  · obtain ⟨rfl, ex⟩ := y
    obtain ⟨p, sp, rfl, es, hs⟩ := stand_getV im ex
    have s14 := s3.trans s4
    have hsm := mem_of_some es
    refine ⟨rfl, .ref c, rfl, (Ti.of s14 _ _ ec).tm, .ref p, rfl, .ref p, dS sp, S.map dS, rfl, (Im.tup (Ti.of s14 _ _ ec) (im.mono (Ti.of s14))).dp, (SpotAt.im (Ti.of s14 _ _ hs)).dp, shaped_stand S, shaped_spot sp, ?_⟩
    refine ⟨.ref a, rfl, .ref p, rfl, a, ln, p, sp, rfl, s14.seq hL, Ti.of s14 _ _ hs, ok.spot sp hsm, _, _, rfl, rfl, ?_⟩
    rw [countP_spot]
    have hr := ok.room sp hsm
    exact hk _ _ (Same.refl _) (congrArg V.bl (decide_eq_false (by omega)))
  · have e := bls_of (f := fun _ => false) l4 el2
    subst e
    refine ⟨D2, _, rfl, .inl (.inl e4), _, rfl, ?_⟩
    rw [any_false (fun _ _ => rfl)]
    exact iteF (q _ (s3.trans s4))
def spNeedStand (K : PySem.W.Frag) : Sp := fun vs H Q _ => ∃ a b c ln wy S, vs = [.ref a, .ref b, .ref c] ∧ LaneAt K H a ln ∧ WaysAt K H b wy ∧ StandAt H c S ∧ OkStand ln wy S ∧ ∀ H', Same H H' → Q (.bl true) H'
theorem ok_needStand (T : Txt K mg) : DefOk P w K mg base 4 "need_stand" ["lane", "ways", "stand"] (spNeedStand K) := by
  have D_needLane : DefOk P w K mg base 2 "need_lane" ["lane"] (spNeedLane K) := ok_needLane T
  have D_needWays : DefOk P w K mg base 2 "need_ways" ["ways"] (spNeedWays K) := ok_needWays T
  have D_needSpots : DefOk P w K mg base 3 "need_spots" ["lane", "stand"] (spNeedSpots K) := ok_needSpots T
  refine T.f_needStand.ok sc_needStand (fun vs H Q E h => by obtain ⟨a, b, c, ln, wy, S, rfl, _⟩ := h; rfl) (fun f cdv A outer s H vs Q E hr h => ?_)
  obtain ⟨a, b, c, ln, wy, S, rfl, hL, hW, hS, ok, q⟩ := h
  refine ⟨_, (pss_cons (ps_expr (pe_def D_needLane (hr.mono (by omega)) (pa_cons (pv 0) pa_nil)))
      (pss_cons (ps_expr (pe_def D_needWays (hr.mono (by omega)) (pa_cons (pv 1) pa_nil)))
      (pss_cons (ps_expr (pe_def D_needSpots (hr.mono (by omega)) (pa_cons (pv 0) (pa_cons (pv 2) pa_nil))))
      (pss_cons (ps_if (pt_cmpR op_ne (pe_callB call_len_seq (by rfl) T.b_len (by decide +kernel) (pa_cons (pv 2) pa_nil)) (pe_callB call_len_seq (by rfl) T.b_len (by decide +kernel) (pa_cons (pv 1) pa_nil)) (nomark _)) (pss_one ps_never) pss_nil)
      (pss_one (ps_ret pe_bl)))))), ?_⟩
  refine ⟨.ref a, rfl, a, ln, rfl, hL, ok.lane, fun H1 s1 => ?_⟩
  refine ⟨.ref b, rfl, b, wy, rfl, s1.seq hW, ok.one, ok.most, fun H2 s2 => ?_⟩
  have s12 := s1.trans s2
  refine ⟨.ref a, rfl, .ref c, rfl, a, c, ln, S, rfl, s12.seq hL, hS.mono (Ti.of s12), ok.spots, fun H3 s3 => ?_⟩
  have s13 := s12.trans s3
  obtain ⟨xs, ec, im⟩ := hS
  have zl := StandAt.len im
  exact ⟨.ref c, rfl, c, _, rfl, .inr (Ti.of s13 _ _ ec).sq, .ref b, rfl, b, _, rfl, .inl (s13.seq hW), rfl, _, rfl, iteF' (by rw [List.length_map, zl, ok.len]; simp) (q _ s13)⟩
end
end Slx

set_option Elab.async false
set_option linter.all false
set_option maxRecDepth 100000
set_option maxHeartbeats 4000000
namespace Slx
open PySem PySem.Spec PyProof.Rows L2 Sl
def dW : Wd → Str
  | .go => "go"
  | .aside => "aside"
  | .on => "on"
def dM (m : Mv) : PyData := .tuple [.str (dW m.1), .int m.2]
def dCh (c : Mv × Spot) : PyData := .tuple [dM c.1, dS c.2]
section
variable {P : Program} {w : World} {K : PySem.W.Frag} {mg : Str → Option Value} {base : Heap}
theorem way_right (r : Bool) : decide (V.str (wS r) = .str "right") = r := by cases r <;> decide
def spSpotAhead (K : PySem.W.Frag) : Sp := fun vs H Q _ => ∃ a ln r k, vs = [.ref a, .str (wS r), .int ((k : Nat) : Int)] ∧ LaneAt K H a ln ∧ k < ln.length ∧ ∀ H' p, Same H H' → SpotAt H' p (spotAhead ln r k) → Q (.ref p) H'
theorem ok_spotAhead (T : Txt K mg) : DefOk P w K mg base 1 "spot_ahead" ["lane", "way", "place"] (spSpotAhead K) := by
  refine T.f_spotAhead.ok sc_spotAhead (fun vs H Q E h => by obtain ⟨a, ln, r, k, rfl, _⟩ := h; rfl) (fun f cdv A outer s H vs Q E hr h => ?_)
  obtain ⟨a, ln, r, k, rfl, hL, hk, q⟩ := h
  refine ⟨_, (pss_cons (ps_set (i := 3) sc_spotAhead.nd rfl (.inl rfl) (pe_ifExp (pt_cmpR op_eq (pv 1) pe_str (nomark _)) (pe_op op_add (pv 2) pe_int) (pe_op op_sub (pv 2) pe_int)))
      (pss_one (ps_ret (pe_ifExp (pt_chain op_le op_lt pe_int (pv 3) (pe_callB call_len_seq (by rfl) T.b_len (by decide +kernel) (pa_cons (pv 0) pa_nil))) (pe_tupF (pa_cons pe_str (pa_cons (pv 3) pa_nil))) (pe_tupF (pa_cons pe_str pa_nil)))))), ?_⟩
  refine ⟨.str (wS r), rfl, rfl, _, rfl, ?_⟩
  rw [way_right]
  have lane : ∀ (j : Int) (m : Nat), j = m → m < ln.length → spotAhead ln r k = .lane m → (0 ≤ j ∧ j < ln.length) ∧ ∀ p o, H p = none → o.dict = none → Q (.ref p) (upd H p (.frz o (.tup [.str "lane", .int j]))) := fun j m hj hm e =>
    ⟨⟨by omega, by omega⟩, fun p o hp ho => q _ _ (same_new hp) (by rw [e, hj]; exact TupAt.new ho)⟩
  have out : spotAhead ln r k = .out → ∀ p o, H p = none → o.dict = none → Q (.ref p) (upd H p (.frz o (.tup [.str "out"]))) := fun e p o hp ho =>
    q _ _ (same_new hp) (by rw [e]; exact TupAt.new ho)
  cases r with
  | true =>
    refine iteT ⟨.int k, rfl, (k : Int), 1, rfl, rfl, .int ((k : Int) + 1), rfl, 0, _, rfl, rfl, _, rfl, iteT' (decide_eq_true (by omega)) ⟨.ref a, rfl, a, _, rfl, .inl hL, _, _, rfl, rfl, _, rfl, ?_⟩⟩
    rw [List.length_map]
    refine ite2 (fun h => ?_) (fun h => ?_)
    · have h' := of_decide_eq_true h
      have e : spotAhead ln true k = .lane (k + 1) := by unfold spotAhead; rw [if_pos rfl, if_pos (by omega)]
      exact ⟨.int ((k : Int) + 1), rfl, two_size, (lane _ (k + 1) (by omega) (by omega) e).2⟩
    · have h' : ¬ ((k : Int) + 1 < ln.length) := fun z => h (decide_eq_true z)
      have e : spotAhead ln true k = .out := by unfold spotAhead; rw [if_pos rfl, if_neg (by omega)]
      exact ⟨one_size, out e⟩
  | false =>
    refine iteF ⟨.int k, rfl, (k : Int), 1, rfl, rfl, .int ((k : Int) - 1), rfl, 0, _, rfl, rfl, _, rfl, ?_⟩
    refine ite2 (fun h => ?_) (fun h => ?_)
    · have h' := of_decide_eq_true h
      refine ⟨.ref a, rfl, a, _, rfl, .inl hL, _, _, rfl, rfl, _, rfl, iteT' (decide_eq_true (by rw [List.length_map]; omega)) ?_⟩
      obtain ⟨m, rfl⟩ : ∃ m, k = m + 1 := ⟨k - 1, by omega⟩
      have e : spotAhead ln false (m + 1) = .lane m := by unfold spotAhead; simp only [Bool.false_eq_true, if_false]; rw [if_pos (by omega)]
      exact ⟨.int (((m + 1 : Nat) : Int) - 1), rfl, two_size, (lane _ m (by omega) (by omega) e).2⟩
    · have h' : ¬ (0 ≤ (k : Int) - 1) := fun z => h (decide_eq_true z)
      have hk0 : k = 0 := by omega
      subst hk0
      exact ⟨false, rfl, iteF ⟨one_size, out rfl⟩⟩
def spHasRoom (K : PySem.W.Frag) : Sp := fun vs H Q _ => ∃ a c p ln S sp, vs = [.ref a, .ref c, .ref p] ∧ LaneAt K H a ln ∧ StandAt H c S ∧ SpotAt H p sp ∧ okSpot ln sp ∧ Q (.bl (hasRoom ln S sp)) H
theorem ok_hasRoom (T : Txt K mg) : DefOk P w K mg base 2 "has_room" ["lane", "stand", "spot"] (spHasRoom K) := by
  have D_mostAt : DefOk P w K mg base 1 "most_at" ["lane", "spot"] (spMostAt K) := ok_mostAt T
  refine T.f_hasRoom.ok sc_hasRoom (fun vs H Q E h => by obtain ⟨a, c, p, ln, S, sp, rfl, _⟩ := h; rfl) (fun f cdv A outer s H vs Q E hr h => ?_)
  obtain ⟨a, c, p, ln, S, sp, rfl, hL, ⟨xs, ec, im⟩, hs, ok, q⟩ := h
  refine ⟨_, (pss_one (ps_ret (pe_cmpR op_lt (pe_tm PySem.F.plainAttrs_tuple PySem.F.slot_tuple_count PySem.F.type_tuple_count (r := rCountT K) (mt_countT (hu65 hr)) (pv 1) (pa_cons (pv 2) pa_nil)) (pe_def D_mostAt (hr.mono (by omega)) (pa_cons (pv 0) (pa_cons (pv 2) pa_nil))) (nomark _)))), ?_⟩
  refine ⟨.ref c, rfl, ec.tm, .ref p, rfl, .ref p, dS sp, S.map dS, rfl, (Im.tup ec im).dp, (SpotAt.im hs).dp, shaped_stand S, shaped_spot sp, ?_⟩
  refine ⟨.ref a, rfl, .ref p, rfl, a, ln, p, sp, rfl, hL, hs, ok, _, _, rfl, rfl, ?_⟩
  rw [countP_spot]
  exact q
end
end Slx

set_option Elab.async false
set_option linter.all false
set_option maxRecDepth 100000
set_option maxHeartbeats 4000000
namespace Slx
open PySem PySem.Spec PyProof.Rows L2 Sl
section
variable {P : Program} {w : World} {K : PySem.W.Frag} {mg : Str → Option Value} {base : Heap}
/-- a new choice -/
theorem im_choice {H : Hp} {t1 t2 q : Addr} {o1 o2 : Obj} {wd : Wd} {k : Nat} {s : Spot} (hq : SpotAt H q s) (h1 : H t1 = none) (ho1 : o1.dict = none)
    (h2 : (upd H t1 (.frz o1 (.tup [.str (dW wd), .int k]))) t2 = none) (ho2 : o2.dict = none) :
    Im (upd (upd H t1 (.frz o1 (.tup [.str (dW wd), .int k]))) t2 (.frz o2 (.tup [.ref t1, .ref q]))) (.ref t2) (dCh ((wd, k), s)) := by
  have a1 : TupAt (upd H t1 (.frz o1 (.tup [.str (dW wd), .int k]))) t1 [.str (dW wd), .int k] := TupAt.new ho1
  have s1 := Ti.new (o := .frz o1 (.tup [.str (dW wd), .int k])) h1
  have s2 := Ti.new (o := .frz o2 (.tup [.ref t1, .ref q])) h2
  refine .tup (TupAt.new ho2) (.cons (.tup (s2 _ _ a1) (.cons (.str _) (.cons (.int _) .nil))) (.cons (Im.mono (s1.trans s2) hq.im) .nil))
/-- the moves of one train from a spot, be there room or not -/
def triesOf (ln : List Int) (r : Bool) (sp : Spot) (k : Nat) : List (Mv × Spot) := match sp with
  | .out => []
  | .lane p => [((.go, k), spotAhead ln r p), ((.aside, k), .side p)]
  | .side p => [((.on, k), spotAhead ln r p)]
theorem choices_tries (ln : List Int) (wy : List Bool) (S : Stand) (k : Nat) : choices ln wy S k = (triesOf ln (wy.getD k true) (S.getD k .out) k).filter fun c => hasRoom ln S c.2 := by
  unfold choices triesOf
  generalize wy.getD k true = r
  cases S.getD k .out with
  | out => rfl
  | lane p =>
    simp only
    by_cases h1 : hasRoom ln S (spotAhead ln r p) = true <;> by_cases h2 : hasRoom ln S (.side p) = true <;> simp [h1, h2]
  | side p =>
    simp only
    by_cases h1 : hasRoom ln S (spotAhead ln r p) = true <;> simp [h1]
theorem tries_ok {ln : List Int} {r : Bool} {sp : Spot} {k : Nat} (h : okSpot ln sp) {c : Mv × Spot} (hc : c ∈ triesOf ln r sp k) : okSpot ln c.2 := by
  cases sp with
  | out => cases hc
  | lane p =>
    rcases List.mem_cons.mp hc with e | hc
    · subst e; exact spotAhead_ok _ _
    · rw [List.mem_singleton.mp hc]; exact h
  | side p => rw [List.mem_singleton.mp hc]; exact spotAhead_ok _ _
theorem tries_len (ln : List Int) (r : Bool) (sp : Spot) (k : Nat) : (triesOf ln r sp k).length ≤ 2 := by cases sp <;> simp [triesOf]
def spTries (K : PySem.W.Frag) : Sp := fun vs H Q _ => ∃ a p k ln r sp, vs = [.ref a, .str (wS r), .ref p, .int ((k : Nat) : Int)] ∧ LaneAt K H a ln ∧ SpotAt H p sp ∧ okSpot ln sp ∧
  ∀ H' q xs, Same H H' → H q = none → H' q = some (.lst xs) → ImAll H' xs ((triesOf ln r sp k).map dCh) → Q (.ref q) H'
theorem ok_tries (T : Txt K mg) : DefOk P w K mg base 2 "tries" ["lane", "way", "spot", "train"] (spTries K) := by
  have D_spotAhead : DefOk P w K mg base 1 "spot_ahead" ["lane", "way", "place"] (spSpotAhead K) := ok_spotAhead T
  refine T.f_tries.ok sc_tries (fun vs H Q E h => by obtain ⟨a, p, k, ln, r, sp, rfl, _⟩ := h; rfl) (fun f cdv A outer s H vs Q E hr h => ?_)
  obtain ⟨a, p, k, ln, r, sp, rfl, hL, hp, ok, q⟩ := h
  refine ⟨_, (pss_cons (ps_if (pt_cmpR op_eq (pe_ix (r := rIxT K) ix_tup (pv 2) pe_int (fun _ _ => rfl)) pe_str (nomark _)) (pss_one (ps_ret (pe_lst pa_nil))) pss_nil)
      (pss_cons (ps_asg (pv 2) (pg_tup rfl (pgs_cons (pg_name (i := 4) sc_tries.nd rfl (.inl rfl)) (pgs_cons (pg_name (i := 5) sc_tries.nd rfl (.inl rfl)) pgs_nil))))
      (pss_cons (ps_set (i := 6) sc_tries.nd rfl (.inl rfl) (pe_def D_spotAhead (hr.mono (by omega)) (pa_cons (pv 0) (pa_cons (pv 1) (pa_cons (pv 5) pa_nil)))))
      (pss_cons (ps_if (pt_cmpR op_eq (pv 4) pe_str (nomark _)) (pss_one (ps_ret (pe_lst (pa_cons (pe_tupF (pa_cons (pe_tupF (pa_cons pe_str (pa_cons (pv 3) pa_nil))) (pa_cons (pv 6) pa_nil))) pa_nil)))) pss_nil)
      (pss_one (ps_ret (pe_lst (pa_cons (pe_tupF (pa_cons (pe_tupF (pa_cons pe_str (pa_cons (pv 3) pa_nil))) (pa_cons (pv 6) pa_nil))) (pa_cons (pe_tupF (pa_cons (pe_tupF (pa_cons pe_str (pa_cons (pv 3) pa_nil))) (pa_cons (pe_tupF (pa_cons pe_str (pa_cons (pv 5) pa_nil))) pa_nil))) pa_nil))))))))), ?_⟩
  cases sp with
  | out =>
    exact ⟨.ref p, rfl, p, _, 0, _, rfl, rfl, hp.sq, at0, rfl, _, rfl, iteT' (decide_eq_true rfl) ⟨Nat.zero_le _, fun D hD => q _ _ _ (same_new hD) hD upd_same .nil⟩⟩
  | side m =>
    refine ⟨.ref p, rfl, p, _, 0, _, rfl, rfl, hp.sq, at0, rfl, _, rfl, iteF' (decide_eq_false (by decide)) ?_⟩
    refine ⟨.ref p, rfl, p, _, rfl, hp.sq, rfl, _, _, rfl, _, _, rfl, rfl, ?_⟩
    refine ⟨.ref a, rfl, .str (wS r), rfl, .int m, rfl, a, ln, r, m, rfl, hL, ok, fun H2 q1 s2 hq1 => ?_⟩
    refine ⟨.str "side", rfl, rfl, _, rfl, iteT' (decide_eq_true rfl) ?_⟩
    refine ⟨.int k, rfl, two_size, fun t1 o1 h1 ho1 => ⟨.ref q1, rfl, two_size, fun t2 o2 h2 ho2 => ⟨one_size, fun D hD => ?_⟩⟩⟩
    have hc := im_choice (wd := .on) (k := k) hq1 h1 ho1 h2 ho2
    have s4 := (s2.trans (same_new (o := .frz o1 (.tup [.str (dW .on), .int k])) h1)).trans (same_new (o := .frz o2 (.tup [.ref t1, .ref q1])) h2)
    exact q _ _ _ (s4.trans (same_new hD)) (s4.free hD) upd_same (.cons (Im.mono (Ti.new hD) hc) .nil)
  | lane m =>
    refine ⟨.ref p, rfl, p, _, 0, _, rfl, rfl, hp.sq, at0, rfl, _, rfl, iteF' (decide_eq_false (by decide)) ?_⟩
    refine ⟨.ref p, rfl, p, _, rfl, hp.sq, rfl, _, _, rfl, _, _, rfl, rfl, ?_⟩
    refine ⟨.ref a, rfl, .str (wS r), rfl, .int m, rfl, a, ln, r, m, rfl, hL, ok, fun H2 q1 s2 hq1 => ?_⟩
    refine ⟨.str "lane", rfl, rfl, _, rfl, iteF' (decide_eq_false (by decide)) ?_⟩
    refine ⟨.int k, rfl, two_size, fun t1 o1 h1 ho1 => ⟨.ref q1, rfl, two_size, fun t2 o2 h2 ho2 => ?_⟩⟩
    have hc := im_choice (wd := .go) (k := k) hq1 h1 ho1 h2 ho2
    have s4 := (s2.trans (same_new (o := .frz o1 (.tup [.str (dW .go), .int k])) h1)).trans (same_new (o := .frz o2 (.tup [.ref t1, .ref q1])) h2)
    refine ⟨.int k, rfl, two_size, fun t3 o3 h3 ho3 => ⟨.int m, rfl, two_size, fun t4 o4 h4 ho4 => ⟨two_size, fun t5 o5 h5 ho5 => ⟨two_size, fun D hD => ?_⟩⟩⟩⟩
    -- the aside, its word's tuple made ahead of its spot's
    have u3 := same_new (o := .frz o3 (.tup [.str "aside", .int k])) h3
    have u4 := same_new (o := .frz o4 (.tup [.str "side", .int m])) h4
    have u5 := same_new (o := .frz o5 (.tup [.ref t3, .ref t4])) h5
    have u6 := same_new (o := .lst [.ref t2, .ref t5]) hD
    have i3 : TupAt (upd (upd (upd H2 t1 (.frz o1 (.tup [.str (dW .go), .int k]))) t2 (.frz o2 (.tup [.ref t1, .ref q1]))) t3 (.frz o3 (.tup [.str "aside", .int k]))) t3 [.str (dW .aside), .int k] := TupAt.new ho3
    have tot := ((s4.trans u3).trans u4).trans u5
    refine q _ _ _ (tot.trans u6) (tot.free hD) upd_same (.cons (Im.mono (Ti.of (((u3.trans u4).trans u5).trans u6)) hc) (.cons ?_ .nil))
    exact .tup (Ti.of u6 _ _ (TupAt.new ho5)) (.cons (.tup (Ti.of ((u4.trans u5).trans u6) _ _ i3) (.cons (.str _) (.cons (.int _) .nil))) (.cons (SpotAt.im (s := .side m) (Ti.of (u5.trans u6) _ _ (TupAt.new ho4))) .nil))
/-- pairs of a list picked by a comprehension: what is kept so far -/
theorem filter_take {α : Type} {l : List α} {i : Nat} {x : α} {f : α → Bool} (h : l[i]? = some x) : (l.take (i + 1)).filter f = (l.take i).filter f ++ (if f x then [x] else []) := by
  rw [List.take_add_one, h, List.filter_append]
  cases e : f x <;> simp [e]
theorem im_two {H : Hp} {v : V} {d e : PyData} (h : Im H v (.tuple [d, e])) : ∃ a u1 u2, v = .ref a ∧ TupAt H a [u1, u2] ∧ Im H u1 d ∧ Im H u2 e := by
  cases h with
  | tup t i => cases i with
    | cons h1 i => cases i with
      | cons h2 i => cases i; exact ⟨_, _, _, rfl, t, h1, h2⟩
def spChoices (K : PySem.W.Frag) : Sp := fun vs H Q _ => ∃ a b c k ln wy S, vs = [.ref a, .ref b, .ref c, .int ((k : Nat) : Int)] ∧ LaneAt K H a ln ∧ WaysAt K H b wy ∧ StandAt H c S ∧ OkStand ln wy S ∧ k < S.length ∧
  ∀ H' p xs, Same H H' → H p = none → H' p = some (.lst xs) → ImAll H' xs ((choices ln wy S k).map dCh) → Q (.ref p) H'
theorem ok_choices (T : Txt K mg) : DefOk P w K mg base 3 "choices" ["lane", "ways", "stand", "train"] (spChoices K) := by
  have D_tries : DefOk P w K mg base 2 "tries" ["lane", "way", "spot", "train"] (spTries K) := ok_tries T
  have D_hasRoom : DefOk P w K mg base 2 "has_room" ["lane", "stand", "spot"] (spHasRoom K) := ok_hasRoom T
  refine T.f_choices.ok sc_choices (fun vs H Q E h => by obtain ⟨a, b, c, k, ln, wy, S, rfl, _⟩ := h; rfl) (fun f cdv A outer s H vs Q E hr h => ?_)
  obtain ⟨a, b, c, k, ln, wy, S, rfl, hL, hW, hS, ok, hk, q⟩ := h
  refine ⟨_, (pss_cons (ps_set (i := 4) sc_choices.nd rfl (.inl rfl) (pe_def D_tries (hr.mono (by omega)) (pa_cons (pv 0) (pa_cons (pe_ix (r := rIxL K) ix_list (pv 1) (pv 3) (fun _ _ => rfl)) (pa_cons (pe_ix (r := rIxT K) ix_tup (pv 2) (pv 3) (fun _ _ => rfl)) (pa_cons (pv 3) pa_nil))))))
      (pss_one (ps_ret (pe_lc (g := gTup K 2 (gCons (gName 5) (gCons (gName 6) gNil))) (own := [("move", 5), ("spot", 6)]) rfl sc_choices.nd (pi_listK (K := K) (pv 4)) (blkOk_by (own := [("move", 5), ("spot", 6)]) (N := ["lane", "ways", "stand", "train", "found", "move", "spot"]) (sc := defScope s_choices) (by decide +kernel)) (fun _ _ _ _ _ => (pg_tup rfl (pgs_cons (pg_name (i := 5) sc_choices.nd rfl (.inl rfl)) (pgs_cons (pg_name (i := 6) sc_choices.nd rfl (.inl rfl)) pgs_nil)))) (fun _ _ _ _ _ => (pts_one (pt_val (pe_def D_hasRoom (hr.mono (by omega)) (pa_cons (pv 0) (pa_cons (pv 2) (pa_cons (pv 6) pa_nil))))))) (fun _ _ _ _ _ => (pe_tupF (pa_cons (pv 5) (pa_cons (pv 6) pa_nil)))))))), ?_⟩
  have es : S[k]? = some (S.getD k .out) := getD_lt hk
  have ew : wy[k]? = some (wy.getD k true) := getD_lt (by rw [← ok.len]; exact hk)
  have ewV : (wy.map fun b => V.str (wS b))[k]? = some (.str (wS (wy.getD k true))) := by rw [List.getElem?_map, ew]; rfl
  rw [choices_tries] at q
  generalize S.getD k .out = sp at es q
  generalize wy.getD k true = r at ew ewV q
  obtain ⟨xs, ec, im⟩ := id hS
  obtain ⟨p, ep, hp⟩ := stand_get im es
  have okp := ok.spot sp (mem_of_some es)
  refine ⟨.ref a, rfl, .ref b, rfl, .int k, rfl, b, _, (k : Int), _, rfl, rfl, hW, atI_nat ewV, .ref c, rfl, .int k, rfl, c, xs, (k : Int), _, rfl, rfl, ec.sq, atI_nat ep, .int k, rfl, ?_⟩
  refine ⟨a, p, k, ln, r, sp, rfl, hL, hp, okp, fun H1 l1 ys s1 hl1 el1 il1 => ⟨.ref l1, rfl, l1, rfl, ⟨_, .inl (.inl el1)⟩, fun D hD => ?_⟩⟩
  have hD0 : H D = none := s1.free hD
  have ly : ys.length = (triesOf ln r sp k).length := by rw [il1.length, List.length_map]
  have l2 := tries_len ln r sp k
  refine lc_it (walk_list (K := K) (a := l1) (xs := ys)) (fun i G => Same H1 G ∧ ∃ acc, G D = some (.lst acc) ∧ ImAll G acc ((((triesOf ln r sp k).take i).filter fun c => hasRoom ln S c.2).map dCh)) ⟨same_new hD, [], upd_same, .nil⟩ (fun i G _ pv => .inl (.inl (pv.1 _ _ el1))) (fun i x G G' hi pv y => ?_) (fun G pv => ?_)
  · obtain ⟨sm, acc, ea, ia⟩ := pv
    obtain ⟨rfl, ex⟩ := y
    obtain ⟨d, ed, imd⟩ := il1.getV ex
    rw [List.getElem?_map] at ed
    cases ech : (triesOf ln r sp k)[i]? with
    | none => rw [ech] at ed; cases ed
    | some ch =>
      rw [ech] at ed
      cases ed
      have s2 := s1.trans sm
      obtain ⟨t, u1, u2, rfl, tt, i1, i2⟩ := im_two (Im.mono (Ti.of sm) imd)
      obtain ⟨ts, rfl, hsp⟩ := im_spot i2
      refine ⟨t, _, rfl, tt.sq, rfl, _, _, rfl, _, _, rfl, rfl, rfl, ?_⟩
      refine ⟨.ref a, rfl, .ref c, rfl, .ref ts, rfl, a, c, ts, ln, S, ch.2, rfl, s2.seq hL, hS.mono (Ti.of s2), hsp, tries_ok okp (mem_of_some ech), _, rfl, ?_⟩
      rw [filter_take ech]
      cases e : hasRoom ln S ch.2 with
      | false =>
        simp only [Bool.false_eq_true, if_false, List.append_nil]
        exact ⟨sm, acc, ea, ia⟩
      | true =>
        simp only [if_true]
        refine ⟨u1, rfl, .ref ts, rfl, two_size, nT_q fun G4 t4 s4 h4 => ⟨acc, s4 _ _ ea, ?_, ?_⟩⟩
        · have la := ia.length
          have lf := List.length_filter_le (fun c : Mv × Spot => hasRoom ln S c.2) ((triesOf ln r sp k).take i)
          rw [List.length_map] at la
          rw [List.length_take] at lf
          exact Nat.lt_of_le_of_lt (by omega : _ ≤ 2) (by decide)
        · have tl := Ti.lst (o := .lst (acc ++ [.ref t4])) (s4 _ _ ea)
          refine ⟨same_mut (sm.trans s4) hD, _, upd_same, ?_⟩
          rw [List.map_append]
          exact (ia.mono ((Ti.of s4).trans tl)).append (.cons (.tup (tl _ _ h4) (.cons (i1.mono ((Ti.of s4).trans tl)) (.cons ((SpotAt.im (Ti.of s4 _ _ hsp)).mono tl) .nil))) .nil)
  · obtain ⟨sm, acc, ea, ia⟩ := pv
    rw [ly, List.take_length] at ia
    exact q _ _ _ (s1.trans sm) hD0 ea ia
end
end Slx

set_option Elab.async false
set_option linter.all false
set_option maxRecDepth 100000
set_option maxHeartbeats 4000000
namespace Slx
open PySem PySem.Spec PyProof.Rows L2 Sl
theorem im_pair {H : Hp} {v : V} {d e : PyData} (h : Im H v (.tuple [d, e])) : ∃ a u1 u2, v = .ref a ∧ TupAt H a [u1, u2] ∧ Im H u1 d ∧ Im H u2 e := by
  cases h with
  | tup t i => cases i with
    | cons h1 i => cases i with
      | cons h2 i => cases i; exact ⟨_, _, _, rfl, t, h1, h2⟩
theorem im_str {H : Hp} {v : V} {x : Str} (h : Im H v (.str x)) : v = .str x := by cases h; rfl
theorem im_int {H : Hp} {v : V} {i : Int} (h : Im H v (.int i)) : v = .int i := by cases h; rfl
/-- a move at a -/
abbrev MoveAt (H : Hp) (a : Addr) (m : Mv) : Prop := TupAt H a [.str (dW m.1), .int m.2]
theorem im_move {H : Hp} {v : V} {m : Mv} (h : Im H v (dM m)) : ∃ a, v = .ref a ∧ MoveAt H a m := by
  obtain ⟨a, u1, u2, rfl, t, h1, h2⟩ := im_pair h
  rw [im_str h1, im_int h2] at t
  exact ⟨a, rfl, t⟩
theorem MoveAt.im {H : Hp} {a : Addr} {m : Mv} (h : MoveAt H a m) : Im H (.ref a) (dM m) := .tup h (.cons (.str _) (.cons (.int _) .nil))
theorem choices_len (ln : List Int) (wy : List Bool) (S : Stand) (k : Nat) : (choices ln wy S k).length ≤ 2 := by
  unfold choices
  split
  · simp
  · rw [List.length_append]
    split <;> split <;> simp
  · split <;> simp
theorem flat_len (ln : List Int) (wy : List Bool) (S : Stand) : ∀ n, ((List.range n).flatMap fun k => choices ln wy S k).length ≤ 2 * n
  | 0 => by simp
  | n + 1 => by
    rw [List.range_succ, List.flatMap_append, List.length_append]
    have h1 := flat_len ln wy S n
    have h2 := choices_len ln wy S n
    simp only [List.flatMap_cons, List.flatMap_nil, List.append_nil]
    omega
theorem dW_inj {a b : Wd} (h : dW a = dW b) : a = b := by cases a <;> cases b <;> first | rfl | (exact absurd h (by decide))
theorem eqv_move (a b : Mv) : PyData.eqv (dM a) (dM b) = decide (a = b) := by
  obtain ⟨w1, k1⟩ := a
  obtain ⟨w2, k2⟩ := b
  simp only [dM, PyData.eqv, PyData.eqvAll, natInt_eq, Bool.and_true]
  rw [str_beq]
  by_cases h : w1 = w2
  · subst h; simp
  · have h2 : ¬ dW w1 = dW w2 := fun e => h (dW_inj e)
    simp [h, h2]
theorem shaped_move (a : Mv) : SeqAt.shaped (dM a) = true := by
  obtain ⟨w, k⟩ := a
  cases w <;> (simp [dM, dW, SeqAt.shaped, PyData.canLay0, PyData.canLayAll0, PyData.depth, PyData.depthAll]; try decide +kernel)
section
variable {P : Program} {w : World} {K : PySem.W.Frag} {mg : Str → Option Value} {base : Heap}
def spAllowed (K : PySem.W.Frag) : Sp := fun vs H Q _ => ∃ a b c ln wy S, vs = [.ref a, .ref b, .ref c] ∧ LaneAt K H a ln ∧ WaysAt K H b wy ∧ StandAt H c S ∧ OkStand ln wy S ∧
  ∀ H' p xs, Same H H' → H p = none → H' p = some (.lst xs) → ImAll H' xs ((allowed ln wy S).map dM) → Q (.ref p) H'
theorem ok_allowed (T : Txt K mg) : DefOk P w K mg base 5 "allowed" ["lane", "ways", "stand"] (spAllowed K) := by
  have D_needStand : DefOk P w K mg base 4 "need_stand" ["lane", "ways", "stand"] (spNeedStand K) := ok_needStand T
  have D_choices : DefOk P w K mg base 3 "choices" ["lane", "ways", "stand", "train"] (spChoices K) := ok_choices T
  refine T.f_allowed.ok sc_allowed (fun vs H Q E h => by obtain ⟨a, b, c, ln, wy, S, rfl, _⟩ := h; rfl) (fun f cdv A outer s H vs Q E hr h => ?_)
  obtain ⟨a, b, c, ln, wy, S, rfl, hL, hW, hS, ok, q⟩ := h
  refine ⟨_, (pss_cons (ps_expr (pe_def D_needStand (hr.mono (by omega)) (pa_cons (pv 0) (pa_cons (pv 1) (pa_cons (pv 2) pa_nil)))))
      (pss_one (ps_ret (pe_lc2 (vs1 := [4, 5]) (g := gName 3) (g1 := gTup K 2 (gCons (gName 4) (gCons (gName 5) gNil))) (own := [("train", 3), ("move", 4), ("_", 5)]) rfl sc_allowed.nd (pi_range1 (by rfl) T.b_range (pa_cons (pe_callB call_len_seq (by rfl) T.b_len (by decide +kernel) (pa_cons (pv 2) pa_nil)) pa_nil)) (blkOk_by (own := [("train", 3), ("move", 4), ("_", 5)]) (N := ["lane", "ways", "stand", "train", "move", "_"]) (sc := defScope s_allowed) (by decide +kernel)) (by decide) (fun _ _ _ _ _ => (pg_name (i := 3) sc_allowed.nd rfl (.inl rfl))) (fun _ _ _ _ _ => pts_nil) (fun _ _ _ _ _ => (pi_listK (K := K) (pe_def D_choices (hr.mono (by omega)) (pa_cons (pv 0) (pa_cons (pv 1) (pa_cons (pv 2) (pa_cons (pv 3) pa_nil))))))) (fun _ _ _ _ _ => (pg_tup rfl (pgs_cons (pg_name (i := 4) sc_allowed.nd rfl (.inl rfl)) (pgs_cons (pg_name (i := 5) sc_allowed.nd rfl (.inl rfl)) pgs_nil)))) (fun _ _ _ _ _ => pts_nil) (fun _ _ _ _ _ => (pv 4)))))), ?_⟩
  refine ⟨.ref a, rfl, .ref b, rfl, .ref c, rfl, a, b, c, ln, wy, S, rfl, hL, hW, hS, ok, fun H1 s1 => ?_⟩
  obtain ⟨xs, ec, im⟩ := id hS
  have zl := StandAt.len im
  have z6 := stand_size ok im
  refine ⟨.ref c, rfl, c, xs, rfl, .inr (Ti.of s1 _ _ ec).sq, (xs.length : Int), rfl, by omega, by omega, fun D hD => ?_⟩
  have hD0 : H D = none := s1.free hD
  refine lc2_it (walk_range (lo := 0) (n := ((xs.length : Int)).toNat)) (fun i H2 => Same H1 H2 ∧ ∃ acc, H2 D = some (.lst acc) ∧ ImAll H2 acc (((List.range i).flatMap fun k => choices ln wy S k).map fun x => dM x.1))
    ⟨same_new hD, [], upd_same, .nil⟩ (fun _ _ _ _ => trivial) (fun i x H2 H3 hi p y => ?_) (fun H2 p => ?_)
  · obtain ⟨rfl, rfl⟩ := y
    obtain ⟨s2, acc, ea, ia⟩ := p
    have hi2 : i < S.length := by omega
    have s12 := s1.trans s2
    refine ⟨rfl, ?_⟩
    refine ⟨.ref a, rfl, .ref b, rfl, .ref c, rfl, .int ((0 : Int) + (i : Int)), rfl, ?_⟩
    rw [show ((0 : Int) + (i : Int)) = (i : Int) by omega]
    refine ⟨a, b, c, i, ln, wy, S, rfl, s12.seq hL, s12.seq hW, hS.mono (Ti.of s12), ok, hi2, fun H4 p xs1 s4 hp ep ip => ⟨p, rfl, ⟨_, .inl (.inl ep)⟩, ?_⟩⟩
    have hDp : D ≠ p := ne_of_none ea hp
    have lx : xs1.length = (choices ln wy S i).length := by rw [ip.length, List.length_map]
    refine in_it (walk_list (K := K) (a := p) (xs := xs1)) (fun j H5 => Same H1 H5 ∧ H5 p = some (.lst xs1) ∧ Ti H4 H5 ∧ ∃ acc, H5 D = some (.lst acc) ∧ ImAll H5 acc ((((List.range i).flatMap fun k => choices ln wy S k) ++ (choices ln wy S i).take j).map fun x => dM x.1))
      ⟨s2.trans s4, ep, Ti.refl _, acc, s4 _ _ ea, by rw [List.take_zero, List.append_nil]; exact ia.mono (Ti.of s4)⟩ (fun j H5 _ p5 => .inl (.inl p5.2.1)) (fun j x H5 H6 hj p5 y => ?_) (fun H5 p5 => ?_)
    · obtain ⟨rfl, ex⟩ := y
      obtain ⟨s5, ep5, t5, acc5, ea5, ia5⟩ := p5
      obtain ⟨d, ed, imd⟩ := ip.getV ex
      rw [List.getElem?_map] at ed
      cases ech : (choices ln wy S i)[j]? with
      | none => rw [ech] at ed; cases ed
      | some ch =>
        rw [ech] at ed
        cases ed
        obtain ⟨t, u1, u2, rfl, tt, i1, i2⟩ := im_pair (Im.mono t5 imd)
        refine ⟨t, _, rfl, tt.sq, rfl, _, _, rfl, _, _, rfl, rfl, rfl, u1, rfl, acc5, ea5, ?_, ?_⟩
        · have h1 := ia5.length
          have h2 := flat_len ln wy S i
          have h3 := choices_len ln wy S i
          rw [h1, List.length_map, List.length_append, List.length_take]
          exact Nat.lt_of_le_of_lt (by omega : _ ≤ 1000) (by decide)
        · have tl := Ti.lst (o := .lst (acc5 ++ [u1])) ea5
          refine ⟨same_mut s5 hD, by rw [upd_ne (Ne.symm hDp)]; exact ep5, t5.trans tl, acc5 ++ [u1], upd_same, ?_⟩
          have e : (choices ln wy S i).take (j + 1) = (choices ln wy S i).take j ++ [ch] := by rw [List.take_add_one, ech]; rfl
          rw [e, ← List.append_assoc, List.map_append]
          exact (ia5.mono tl).append (.cons (Im.mono tl i1) .nil)
    · obtain ⟨s5, ep5, t5, acc5, ea5, ia5⟩ := p5
      refine ⟨s5, acc5, ea5, ?_⟩
      rw [List.range_succ, List.flatMap_append]
      have e : (choices ln wy S i).take xs1.length = choices ln wy S i := List.take_of_length_le (by omega)
      rw [e] at ia5
      simpa using ia5
  · obtain ⟨s2, acc, ea, ia⟩ := p
    refine q H2 D acc (s1.trans s2) hD0 ea ?_
    have e : (xs.length : Int).toNat = S.length := by omega
    rw [e] at ia
    show ImAll H2 acc ((allPairs ln wy S).map (·.1) |>.map dM)
    rw [List.map_map]
    exact ia
def spIsMove (K : PySem.W.Frag) : Sp := fun vs H Q _ => ∃ p m n, vs = [.ref p, .int ((n : Nat) : Int)] ∧ MoveAt H p m ∧ m.2 < n ∧ Q (.bl true) H
theorem ok_isMove (T : Txt K mg) : DefOk P w K mg base 2 "is_move" ["thing", "trains"] (spIsMove K) := by
  have D_isNumber : DefOk P w K mg base 1 "is_number" ["thing", "least", "most"] (spIsNumber K) := ok_isNumber T
  refine T.f_isMove.ok sc_isMove (fun vs H Q E h => by obtain ⟨p, m, n, rfl, _⟩ := h; rfl) (fun f cdv A outer s H vs Q E hr h => ?_)
  obtain ⟨p, ⟨wd, k⟩, n, rfl, hm, hk, q⟩ := h
  refine ⟨_, (pss_cons (ps_if (PW.pt (pw_or (pt_cmpR op_notTyB (pe_callTy call_type1 (by rfl) T.b_type (by decide +kernel) (pa_cons (pv 0) pa_nil)) (pe_ty (T := "tuple") T.b_tuple (by decide +kernel)) (nomark _)) (pw_or1 (pt_cmpR op_ne (pe_callB call_len_seq (by rfl) T.b_len (by decide +kernel) (pa_cons (pv 0) pa_nil)) pe_int (nomark _))))) (pss_one (ps_ret pe_bl)) pss_nil)
      (pss_cons (ps_asg (pv 0) (pg_tup rfl (pgs_cons (pg_name (i := 2) sc_isMove.nd rfl (.inl rfl)) (pgs_cons (pg_name (i := 3) sc_isMove.nd rfl (.inl rfl)) pgs_nil))))
      (pss_one (ps_ret (pe_and (pe_cmpR op_isTyB (pe_callTy call_type1 (by rfl) T.b_type (by decide +kernel) (pa_cons (pv 2) pa_nil)) (pe_ty (T := "str") T.b_str (by decide +kernel)) (nomark _)) (pe_one (pe_def D_isNumber (hr.mono (by omega)) (pa_cons (pv 3) (pa_cons pe_int (pa_cons (pe_op op_sub (pv 1) pe_int) pa_nil)))))))))), ?_⟩
  have hT := hm.sq (K := K)
  refine ⟨.ref p, rfl, .ref p, "tuple", rfl, .tup hT, "tuple", "tuple", rfl, rfl, _, rfl, iteNS rfl ?_⟩
  refine ⟨.ref p, rfl, p, _, rfl, .inr hT, rfl, _, rfl, iteF' rfl ?_⟩
  refine ⟨.ref p, rfl, p, _, rfl, hT, rfl, _, _, rfl, _, _, rfl, rfl, ?_⟩
  refine ⟨.str (dW wd), rfl, .str (dW wd), "str", rfl, .str _, "str", "str", rfl, rfl, _, rfl, iteT' (decide_eq_true rfl) ?_⟩
  refine ⟨.int k, rfl, .int n, rfl, (n : Int), 1, rfl, rfl, .int k, "int", 0, (n : Int) - 1, rfl, .int _, ?_⟩
  have e : isNum (.int (k : Int)) 0 ((n : Int) - 1) = true := by
    have hk' : k < n := hk
    show (decide ((0 : Int) ≤ k) && decide ((k : Int) ≤ n - 1)) = true
    rw [decide_eq_true (by omega), decide_eq_true (by omega)]
    rfl
  rw [e]
  exact q
def spBehind (K : PySem.W.Frag) : Sp := fun vs H Q _ => ∃ a b c p ln wy S m sp, vs = [.ref a, .ref b, .ref c, .ref p] ∧ LaneAt K H a ln ∧ WaysAt K H b wy ∧ StandAt H c S ∧ OkStand ln wy S ∧ MoveAt H p m ∧ m.2 < S.length ∧ (m, sp) ∈ choices ln wy S m.2 ∧
  ∀ H' p', Same H H' → StandAt H' p' (S.set m.2 sp) → Q (.ref p') H'
theorem choice_one {ln : List Int} {wy : List Bool} {S : Stand} {k : Nat} {m : Mv} {s t : Spot} (h1 : (m, s) ∈ choices ln wy S k) (h2 : (m, t) ∈ choices ln wy S k) : s = t := by
  obtain ⟨_, _, a1⟩ := mem_choices h1
  obtain ⟨_, _, a2⟩ := mem_choices h2
  rcases a1 with ⟨p, hp, ⟨e1, e2⟩ | ⟨e1, e2⟩⟩ | ⟨p, hp, e1, e2⟩ <;> rcases a2 with ⟨p', hp', ⟨f1, f2⟩ | ⟨f1, f2⟩⟩ | ⟨p', hp', f1, f2⟩
  all_goals first
    | (rw [e1] at f1; cases f1; done)
    | (rw [hp] at hp'; cases hp'; rw [e2, f2])
theorem ok_behind (T : Txt K mg) : DefOk P w K mg base 5 "behind" ["lane", "ways", "stand", "move"] (spBehind K) := by
  have D_needStand : DefOk P w K mg base 4 "need_stand" ["lane", "ways", "stand"] (spNeedStand K) := ok_needStand T
  have D_isMove : DefOk P w K mg base 2 "is_move" ["thing", "trains"] (spIsMove K) := ok_isMove T
  have D_choices : DefOk P w K mg base 3 "choices" ["lane", "ways", "stand", "train"] (spChoices K) := ok_choices T
  refine T.f_behind.ok sc_behind (fun vs H Q E h => by obtain ⟨a, b, c, p, ln, wy, S, m, sp, rfl, _⟩ := h; rfl) (fun f cdv A outer s H vs Q E hr h => ?_)
  obtain ⟨a, b, c, p, ln, wy, S, m, sp, rfl, hL, hW, hS, ok, hm, hk, hch, q⟩ := h
  refine ⟨_, (pss_cons (ps_expr (pe_def D_needStand (hr.mono (by omega)) (pa_cons (pv 0) (pa_cons (pv 1) (pa_cons (pv 2) pa_nil)))))
      (pss_cons (ps_if (pt_not (pt_val (pe_def D_isMove (hr.mono (by omega)) (pa_cons (pv 3) (pa_cons (pe_callB call_len_seq (by rfl) T.b_len (by decide +kernel) (pa_cons (pv 2) pa_nil)) pa_nil))))) (pss_one ps_never) pss_nil)
      (pss_cons (ps_set (i := 4) sc_behind.nd rfl (.inl rfl) (pe_ix (r := rIxT K) ix_tup (pv 3) pe_int (fun _ _ => rfl)))
      (pss_cons (ps_for PassesOwn.never rfl (pi_listK (K := K) (pe_def D_choices (hr.mono (by omega)) (pa_cons (pv 0) (pa_cons (pv 1) (pa_cons (pv 2) (pa_cons (pv 4) pa_nil)))))) (pg_tup rfl (pgs_cons (pg_name (i := 5) sc_behind.nd rfl (.inl rfl)) (pgs_cons (pg_name (i := 6) sc_behind.nd rfl (.inl rfl)) pgs_nil))) (pss_one (ps_if (pt_cmpR (r := rEqD K) (op_eqD (hu64 hr)) (pv 5) (pv 3) (nomark _)) (pss_one (ps_ret (pe_op (r := rCatF K) op_catF (pe_op (r := rCatF K) op_catF (pe_slice (r := rSlF K) sl_tupF (pv 2) po_none (po_some (pv 4))) (pe_tupF (pa_cons (pv 6) pa_nil))) (pe_slice (r := rSlF K) sl_tupF (pv 2) (po_some (pe_op op_add (pv 4) pe_int)) po_none)))) pss_nil)))
      (pss_one ps_never))))), ?_⟩
  refine ⟨.ref a, rfl, .ref b, rfl, .ref c, rfl, a, b, c, ln, wy, S, rfl, hL, hW, hS, ok, fun H1 s1 => ?_⟩
  obtain ⟨xs, ec, im⟩ := id hS
  have zl := StandAt.len im
  have z6 := stand_size ok im
  have hm1 : MoveAt H1 p m := Ti.of s1 _ _ hm
  refine ⟨.ref p, rfl, .ref c, rfl, c, xs, rfl, .inr (Ti.of s1 _ _ ec).sq, p, m, xs.length, rfl, hm1, by omega, _, rfl, iteF' rfl ?_⟩
  refine ⟨.ref p, rfl, p, _, 1, _, rfl, rfl, hm1.sq, at1, ?_⟩
  refine ⟨.ref a, rfl, .ref b, rfl, .ref c, rfl, .int m.2, rfl, a, b, c, m.2, ln, wy, S, rfl, s1.seq hL, s1.seq hW, hS.mono (Ti.of s1), ok, hk, fun H2 d xs1 s2 hd ed id1 => ⟨d, rfl, ⟨_, .inl (.inl ed)⟩, ?_⟩⟩
  have s12 := s1.trans s2
  have lx : xs1.length = (choices ln wy S m.2).length := by rw [id1.length, List.length_map]
  refine for_it (walk_list (K := K) (a := d) (xs := xs1)) (fun i σ H3 => H3 = H2 ∧ (∃ y5 y6, σ = [some (.ref a), some (.ref b), some (.ref c), some (.ref p), some (.int m.2), y5, y6]) ∧ ∀ j ch, j < i → (choices ln wy S m.2)[j]? = some ch → ch.1 ≠ m)
    ⟨rfl, ⟨none, none, rfl⟩, fun j ch hj _ => absurd hj (Nat.not_lt_zero j)⟩ (fun i σ H3 _ p3 => by rw [p3.1]; exact .inl (.inl ed)) (fun i x σ H3 H4 hi p3 y => ?_) (fun σ H3 p3 => ?_)
  · obtain ⟨rfl, ⟨y5, y6, rfl⟩, hno⟩ := p3
    obtain ⟨rfl, ex⟩ := y
    obtain ⟨dd, edd, imd⟩ := id1.getV ex
    rw [List.getElem?_map] at edd
    cases ech : (choices ln wy S m.2)[i]? with
    | none => rw [ech] at edd; cases edd
    | some ch =>
      rw [ech] at edd
      cases edd
      obtain ⟨t, u1, u2, rfl, tt, i1, i2⟩ := im_pair imd
      obtain ⟨tm, rfl, hmv⟩ := im_move i1
      obtain ⟨ts, rfl, hsp⟩ := im_spot i2
      refine ⟨t, _, rfl, tt.sq, rfl, _, _, rfl, _, _, rfl, rfl, ?_⟩
      refine ⟨.ref tm, rfl, .ref p, rfl, dM ch.1, dM m, hmv.im.dp, (MoveAt.im (Ti.of s2 _ _ hm1)).dp, shaped_move _, shaped_move _, _, rfl, ?_⟩
      rw [eqv_move]
      refine ite2 (fun e => ?_) (fun e => ?_)
      · have e' : ch.1 = m := of_decide_eq_true e
        have esp : ch.2 = sp := choice_one (ln := ln) (wy := wy) (S := S) (k := m.2) (m := m) (by rw [← e']; rw [e']; have := mem_of_some ech; rw [← e']; rw [← e'] at this; exact this) hch
        refine ⟨.ref c, rfl, .int m.2, rfl, m.2, rfl, slF (Ti.of s12 _ _ ec) fun H5 p5 s5 t5 => ?_⟩
        rw [cut_to (by omega)] at t5
        refine ⟨.ref ts, rfl, one_size, nT_q fun H6 p6 s6 t6 => catF (Ti.of s6 _ _ t5) t6 (by simp [sizeLine_eq]; omega) fun H7 p7 s7 t7 => ?_⟩
        have s57 := (s5.trans s6).trans s7
        refine ⟨.ref c, rfl, .int m.2, rfl, (m.2 : Int), 1, rfl, rfl, (m.2 : Int) + 1, rfl, ?_⟩
        show rSlF K (.ref c) (some ((m.2 : Int) + 1)) none H7 fun y H2 => rCatF K (.ref p7) y H2 Q
        refine slF (Ti.of (s12.trans s57) _ _ ec) fun H8 p8 s8 t8 => ?_
        have t8' : TupAt H8 p8 (xs.drop (m.2 + 1)) := by
          have e2 : cutV xs (some ((m.2 : Int) + 1)) none = xs.drop (m.2 + 1) := by
            have := cut_from (xs := xs) (k := m.2 + 1) (by omega)
            rw [← this]
            congr 2
          rw [← e2]
          exact t8
        refine catF (Ti.of s8 _ _ t7) t8' (by simp [sizeLine_eq]; omega) fun H9 p9 s9 t9 => ?_
        rw [set_parts (by omega)] at t9
        have s29 := (s57.trans s8).trans s9
        refine q H9 p9 (s12.trans s29) ⟨_, t9, ?_⟩
        rw [List.map_set]
        have hs9 : SpotAt H9 ts sp := by rw [← esp]; exact Ti.of s29 _ _ hsp
        exact ImAll.set hs9.im m.2 (im.mono (Ti.of (s12.trans s29)))
      · refine ⟨rfl, ⟨_, _, rfl⟩, fun j c2 hj ej => ?_⟩
        by_cases hji : j = i
        · subst hji
          rw [ech] at ej
          cases ej
          exact fun z => e (decide_eq_true z)
        · exact hno j c2 (by omega) ej
  · obtain ⟨_, _, hno⟩ := p3
    obtain ⟨j, hj, ej⟩ := List.getElem_of_mem hch
    exact hno j (m, sp) (by omega) (by rw [List.getElem?_eq_getElem hj, ej]) rfl
end
end Slx

set_option Elab.async false
set_option linter.all false
set_option maxRecDepth 100000
set_option maxHeartbeats 4000000
namespace Slx
open PySem PySem.Spec PyProof.Rows L2 Sl
section
variable {P : Program} {w : World} {K : PySem.W.Frag} {mg : Str → Option Value} {base : Heap}
theorem szK {n : Nat} (h : n ≤ 100) : n ≤ sizeLine := by rw [sizeLine_eq]; omega
theorem szlt {n : Nat} (h : n ≤ 100) : n < sizeLine := by rw [sizeLine_eq]; omega
def allEr : List Er := [.lane, .ways, .stand, .move, .place]
/-- the words of a refusal that is handled -/
def spKind (K : PySem.W.Frag) (C : Er → Addr) (p : Addr × Obj) : Sp := fun vs H Q _ => ∃ x : Er, vs = [.ref p.1] ∧ Zc (.ref (C x)) none p.2 ∧ (∃ us, p.2.data = .fields us) ∧ ∀ H' a, Same H H' → H a = none → H' a = some (.lst [.str x.word, .str "value"]) → Q (.ref a) H'
theorem ok_lKind (T : Txt K mg) {L : Addr} {C : Er → Addr} (E : Errs K mg L C) {f : Addr} {fd : FuncData} (F : Fun K "_law_kind" "_law_kind" s_lKind f fd) : FnP P w K mg base CX0 1 f fd ["_law_e"] (spKind K C) := by
  refine fnP_of F sc_lKind (fun p vs H Q E h => by obtain ⟨x, rfl, _⟩ := h; rfl) (fun p cdv A outer s H vs Q XE hot hr h => ?_)
  obtain ⟨x, rfl, hz, hf, q⟩ := h
  have is : ∀ {M : Str → Option Value}, CallR (L2H.cxH CX0 P w K mg base ["_law_e", "_law_some", "_law_word", "_law_fits"] "_law_kind" (defScope s_lKind) f cdv A outer s H XE p) (.builtin "isinstance") (rIsE K (C x) p.1) := call_isP (oe := p.2) (E.at_ x).c hz hf (List.mem_singleton.mpr rfl)
  refine ⟨_, pss_cons (ps_set (i := 1) sc_lKind.nd rfl (.inl rfl) (pe_lst (pa_cons (pe_tupF (pa_cons pe_str (pa_cons (pe_callB (r := rIsE K (C x) p.1) (id := "isinstance") (is (M := mg)) (by rfl) T.b_isinstance (by decide +kernel) (pa_cons (pv 0) (pa_cons (pe_glob (v := .ref (C .lane)) (by rfl) (E.at_ .lane).g rfl) pa_nil))) pa_nil))) (pa_cons (pe_tupF (pa_cons pe_str (pa_cons (pe_callB (r := rIsE K (C x) p.1) (id := "isinstance") (is (M := mg)) (by rfl) T.b_isinstance (by decide +kernel) (pa_cons (pv 0) (pa_cons (pe_glob (v := .ref (C .ways)) (by rfl) (E.at_ .ways).g rfl) pa_nil))) pa_nil))) (pa_cons (pe_tupF (pa_cons pe_str (pa_cons (pe_callB (r := rIsE K (C x) p.1) (id := "isinstance") (is (M := mg)) (by rfl) T.b_isinstance (by decide +kernel) (pa_cons (pv 0) (pa_cons (pe_glob (v := .ref (C .stand)) (by rfl) (E.at_ .stand).g rfl) pa_nil))) pa_nil))) pa_nil)))))
    (pss_cons (ps_set (i := 1) sc_lKind.nd rfl (.inl rfl) (pe_op op_cat (pv 1) (pe_lst (pa_cons (pe_tupF (pa_cons pe_str (pa_cons (pe_callB (r := rIsE K (C x) p.1) (id := "isinstance") (is (M := mg)) (by rfl) T.b_isinstance (by decide +kernel) (pa_cons (pv 0) (pa_cons (pe_glob (v := .ref (C .move)) (by rfl) (E.at_ .move).g rfl) pa_nil))) pa_nil))) (pa_cons (pe_tupF (pa_cons pe_str (pa_cons (pe_callB (r := rIsE K (C x) p.1) (id := "isinstance") (is (M := mg)) (by rfl) T.b_isinstance (by decide +kernel) (pa_cons (pv 0) (pa_cons (pe_glob (v := .ref (C .place)) (by rfl) (E.at_ .place).g rfl) pa_nil))) pa_nil))) pa_nil)))))
    (pss_one (ps_ret (pe_op op_cat (pe_lcH (K := K) (g := gTup K 2 (gCons (gName 2) (gCons (gName 3) gNil))) (own := [("_law_word", 2), ("_law_fits", 3)]) ⟨p, hot, List.mem_singleton.mpr rfl⟩ sc_lKind.nd (pv 1) (blkOk_by (own := [("_law_word", 2), ("_law_fits", 3)]) (N := ["_law_e", "_law_some", "_law_word", "_law_fits"]) (sc := defScope s_lKind) (by decide +kernel)) (fun _ _ _ _ _ p' hot' => pg_tupH (hblk_hot hot') (pgs_cons (pg_name (i := 2) sc_lKind.nd rfl (.inl rfl)) (pgs_cons (pg_name (i := 3) sc_lKind.nd rfl (.inl rfl)) pgs_nil))) (fun _ _ _ _ _ _ _ => pts_one (pt_val (pv 3))) (fun _ _ _ _ _ _ _ => pv 2)) (pe_op op_rep (pe_lst (pa_cons pe_str pa_nil)) (pe_callTy call_int1 (by rfl) T.b_int (by decide +kernel) (pa_cons (pe_callB (r := rIsE K (C x) p.1) (id := "isinstance") (is (M := mg)) (by rfl) T.b_isinstance (by decide +kernel) (pa_cons (pv 0) (pa_cons (pe_ty (T := "ValueError") T.b_ValueError (by decide +kernel)) pa_nil))) pa_nil))))))), ?_⟩
  refine ⟨.ref p.1, rfl, .ref (C .lane), .ref (C .lane), _, rfl, fun _ r => r, E.is x .lane, szK (by simp), nT_q fun H1 t1 s1 q1 => ?_⟩
  refine ⟨.ref p.1, rfl, .ref (C .ways), .ref (C .ways), _, rfl, fun _ r => r, E.is x .ways, szK (by simp), nT_q fun H2 t2 s2 q2 => ?_⟩
  refine ⟨.ref p.1, rfl, .ref (C .stand), .ref (C .stand), _, rfl, fun _ r => r, E.is x .stand, szK (by simp), nT_q fun H3 t3 s3 q3 => ⟨szK (by simp), fun l hl => ?_⟩⟩
  have s4 := same_new (o := .lst [.ref t1, .ref t2, .ref t3]) hl
  have el : (upd H3 l (.lst [.ref t1, .ref t2, .ref t3])) l = some (.lst [.ref t1, .ref t2, .ref t3]) := upd_same
  generalize upd H3 l (.lst [.ref t1, .ref t2, .ref t3]) = H4 at s4 el
  refine ⟨.ref l, rfl, ?_⟩
  refine ⟨.ref p.1, rfl, .ref (C .move), .ref (C .move), _, rfl, fun _ r => r, E.is x .move, szK (by simp), nT_q fun H5 t4 s5 q4 => ?_⟩
  refine ⟨.ref p.1, rfl, .ref (C .place), .ref (C .place), _, rfl, fun _ r => r, E.is x .place, szK (by simp), nT_q fun H6 t5 s6 q5 => ⟨szK (by simp), fun m hm => ?_⟩⟩
  have s7 := same_new (o := .lst [.ref t4, .ref t5]) hm
  have em : (upd H6 m (.lst [.ref t4, .ref t5])) m = some (.lst [.ref t4, .ref t5]) := upd_same
  generalize upd H6 m (.lst [.ref t4, .ref t5]) = H7 at s7 em
  refine ⟨l, m, _, _, rfl, rfl, (s5.trans (s6.trans s7)) _ _ el, em, szK (by simp), fun z hz' => ?_⟩
  have s8 := same_new (o := .lst ([.ref t1, .ref t2, .ref t3] ++ [.ref t4, .ref t5])) hz'
  have ez : (upd H7 z (.lst ([.ref t1, .ref t2, .ref t3] ++ [.ref t4, .ref t5]))) z = some (.lst [.ref t1, .ref t2, .ref t3, .ref t4, .ref t5]) := upd_same
  generalize upd H7 z (.lst ([.ref t1, .ref t2, .ref t3] ++ [.ref t4, .ref t5])) = H8 at s8 ez
  have u7 := s7.trans s8
  have u6 := s6.trans u7
  have u4 := s4.trans (s5.trans u6)
  have u3 := s3.trans u4
  have u2 := s2.trans u3
  have tot := s1.trans u2
  have all5 : ∀ (i : Nat) (y : V), [V.ref t1, .ref t2, .ref t3, .ref t4, .ref t5][i]? = some y → ∃ (e : Er) (t : Addr), allEr[i]? = some e ∧ y = .ref t ∧ TupAt H8 t [.str e.word, .bl (decide (x = e))] := fun i y h => by
    match i, h with
    | 0, h => cases h; exact ⟨.lane, t1, rfl, rfl, Ti.of u2 _ _ q1⟩
    | 1, h => cases h; exact ⟨.ways, t2, rfl, rfl, Ti.of u3 _ _ q2⟩
    | 2, h => cases h; exact ⟨.stand, t3, rfl, rfl, Ti.of u4 _ _ q3⟩
    | 3, h => cases h; exact ⟨.move, t4, rfl, rfl, Ti.of u6 _ _ q4⟩
    | 4, h => cases h; exact ⟨.place, t5, rfl, rfl, Ti.of u7 _ _ q5⟩
    | n + 5, h => simp at h
  refine ⟨.ref z, rfl, z, _, rfl, .inl (.inl ez), fun D hD => ⟨fun i G => Same H8 G ∧ G D = some (.lst (((allEr.take i).filter fun e => decide (x = e)).map fun e => V.str e.word)), ⟨same_new hD, upd_same⟩, fun i G w => .inl (.inl (w.1 _ _ ez)), fun i G y hy w => ?_, fun G w => ?_⟩⟩
  · obtain ⟨e, t, he, rfl, tp⟩ := all5 i y hy
    obtain ⟨sG, eG⟩ := w
    have tg := Ti.of sG _ _ tp
    have tk : allEr.take (i + 1) = allEr.take i ++ [e] := by rw [List.take_add_one, he]; rfl
    refine ⟨t, _, rfl, tg.sq, rfl, _, _, rfl, _, _, rfl, rfl, rfl, .bl (decide (x = e)), rfl, _, rfl, ?_⟩
    by_cases hx : x = e
    · rw [decide_eq_true hx]
      refine iteT ⟨.str e.word, rfl, _, eG, szlt ?_, same_mut sG hD, ?_⟩
      · rw [List.length_map]
        have h1 := List.length_filter_le (fun e => decide (x = e)) (allEr.take i)
        have h2 : (allEr.take i).length ≤ 5 := by rw [List.length_take]; exact Nat.min_le_right _ _
        omega
      · rw [tk, List.filter_append, List.map_append, show ([e].filter fun e => decide (x = e)) = [e] by simp [hx]]
        exact upd_same
    · rw [decide_eq_false hx]
      refine iteF ⟨sG, ?_⟩
      rw [tk, List.filter_append, List.map_append, show ([e].filter fun e => decide (x = e)) = [] by simp [hx]]
      simpa using eG
  · obtain ⟨sG, eG⟩ := w
    have e1 : (((allEr.take [V.ref t1, .ref t2, .ref t3, .ref t4, .ref t5].length).filter fun e => decide (x = e)).map fun e => V.str e.word) = [V.str x.word] := by cases x <;> rfl
    rw [e1] at eG
    refine ⟨szK (by simp), fun v hv => ?_⟩
    have s9 := same_new (o := .lst [.str "value"]) hv
    refine ⟨.ref p.1, rfl, .ty "ValueError", .type "ValueError", true, rfl, (fun _ r => r), (E.at_ x).v, .inr ⟨true, rfl, ?_⟩⟩
    refine ⟨v, 1, _, rfl, rfl, upd_same, by decide, by decide, szK (by simp), fun r hr' => ?_⟩
    have s10 := same_new (o := .lst (List.replicate (1 : Int).toNat [V.str "value"]).flatten) hr'
    refine ⟨D, r, _, _, rfl, rfl, (s9.trans s10) _ _ eG, upd_same, szK (by simp), fun a' ha' => ?_⟩
    have fin := (tot.trans sG).trans ((s9.trans s10).trans (same_new (o := .lst ([V.str x.word] ++ (List.replicate (1 : Int).toNat [V.str "value"]).flatten)) ha'))
    exact q _ a' fin (((tot.trans sG).trans (s9.trans s10)).free ha') upd_same
end
end Slx

set_option Elab.async false
set_option linter.all false
set_option maxRecDepth 100000
set_option maxHeartbeats 4000000
namespace Slx
open PySem PySem.Spec PyProof.Rows L2 Sl
/-- a thing that is no move that is allowed -/
inductive NoMv (K : PySem.W.Frag) (H : Hp) (ln : List Int) (wy : List Bool) (S : Stand) : V → Prop
  | other {x : V} {Tn : String} : TyB K H x Tn → Tn ≠ "tuple" → NoMv K H ln wy S x
  | long {p : Addr} {xs : List V} : TupAt H p xs → xs.length ≠ 2 → NoMv K H ln wy S (.ref p)
  | word {p : Addr} {u v : V} {Tu : String} : TupAt H p [u, v] → TyB K H u Tu → Tu ≠ "str" → NoMv K H ln wy S (.ref p)
  | train {p : Addr} {wd : Str} {v : V} {Tv : String} : TupAt H p [.str wd, v] → TyB K H v Tv → isNum v 0 ((S.length : Int) - 1) = false → NoMv K H ln wy S (.ref p)
  | none {p : Addr} {wd : Str} {k : Nat} : TupAt H p [.str wd, .int k] → k < S.length → SeqAt.shaped (.tuple [.str wd, .int k]) = true → (∀ w, (w, k) ∈ allowed ln wy S → dW w ≠ wd) → NoMv K H ln wy S (.ref p)
section
variable {P : Program} {w : World} {K : PySem.W.Frag} {mg : Str → Option Value} {base : Heap}
/-- behind: the stand, or NoMove -/
def spBehindR (K : PySem.W.Frag) (C : Er → Addr) : Sp := fun vs H Q E => ∃ (a b c : Addr) (mv : V) (ln : List Int) (wy : List Bool) (S : Stand), vs = [.ref a, .ref b, .ref c, mv] ∧ LaneAt K H a ln ∧ WaysAt K H b wy ∧ StandAt H c S ∧ OkStand ln wy S ∧
  ((∃ p m sp, mv = .ref p ∧ MoveAt H p m ∧ m.2 < S.length ∧ (m, sp) ∈ choices ln wy S m.2 ∧ ∀ H' q, Same H H' → StandAt H' q (S.set m.2 sp) → Q (.ref q) H') ∨
   (NoMv K H ln wy S mv ∧ ∀ H', Same H H' → E (.ref (C .move)) none H'))
def spRefused (K : PySem.W.Frag) : Sp := fun vs H Q _ => ∃ (a b c : Addr) (mv : V) (ln : List Int) (wy : List Bool) (S : Stand), vs = [.ref a, .ref b, .ref c, mv] ∧ LaneAt K H a ln ∧ WaysAt K H b wy ∧ StandAt H c S ∧ OkStand ln wy S ∧ NoMv K H ln wy S mv ∧ ∀ H', Same H H' → Q (.bl true) H'
/-- what _law_kind is asked in a suite -/
def spKindS (C : Er → Addr) (a : Addr) (cls : Value) (d : Option Addr) : List V → Hp → VK → Prop := fun vs H Q => ∃ x : Er, cls = .ref (C x) ∧ d = none ∧ vs = [.ref a] ∧ ∀ H' r, Same H H' → H r = none → H' r = some (.lst [.str x.word, .str "value"]) → Q (.ref r) H'
theorem ok_lRefused (T : Txt K mg) {L : Addr} {C : Er → Addr} (E : Errs K mg L C) (D_behind : DefOkR P w K mg base 5 "behind" ["lane", "ways", "stand", "move"] (spBehindR K C)) : DefOk P w K mg base 6 "_law_refused" ["_law_lane", "_law_ways", "_law_stand", "_law_move"] (spRefused K) := by
  refine T.f_lRefused.ok sc_lRefused (fun vs H Q E h => by obtain ⟨a, b, c, mv, ln, wy, S, rfl, _⟩ := h; rfl) (fun f cdv A outer s H vs Q XE hr h => ?_)
  obtain ⟨a, b, c, mv, ln, wy, S, rfl, hL, hW, hS, ok, no, q⟩ := h
  obtain ⟨fk, fdk, Fk, gk, bk⟩ := T.f_lKind.ex
  have KP : FnP P w K mg base CX0 1 fk fdk ["_law_e"] (spKind K C) := ok_lKind T E Fk
  refine ⟨_, pss_cons (L2N.ps_try_as (i := 4) (ts := fun a cls d => fun D σ H => tRet (tOp (rEqD K) (fun σ H Q => (tCons (tVar 4) tNil) σ H fun vs H1 => spKindS C a cls d vs H1 Q) (tLst (tCons (tC (.str "move")) (tCons (tC (.str "value")) tNil)))) D σ H) rfl rfl sc_lRefused.nd rfl rfl ⟨rfl, by decide, .inl E.gL⟩ takesN0
      (fun W pn xe tk _ => pss_one (ps_expr (pe_defR D_behind tk hr (pa_cons (pv 0) (pa_cons (pv 1) (pa_cons (pv 2) (pa_cons (pv 3) pa_nil)))))))
      (fun a oe cls d pn hz hf => pss_one (ps_ret (pe_cmpR (r := rEqD K) (op_eqD (have h := hu64 hr; h)) (pe_callP (sp' := spKindS C a cls d) KP ⟨(hr.mono (by omega) : Room 1 _).dp, (hr.mono (by omega) : Room 1 _).un⟩ (suite_hot hz hf) (List.mem_cons_self ..) (by rfl) gk Fk.kp bk pass0 (fun vs H Q ⟨x, e1, e2, e3, q⟩ => ⟨x, e3, ⟨e1 ▸ hz.1, e2 ▸ hz.2.1⟩, hf, q⟩) (pa_cons (pv 4) pa_nil)) (pe_lst (pa_cons pe_str (pa_cons pe_str pa_nil))) (nomark _)))))
    (pss_one (ps_ret pe_bl)), ?_⟩
  refine ⟨.ref a, rfl, .ref b, rfl, .ref c, rfl, mv, rfl, a, b, c, mv, ln, wy, S, rfl, hL, hW, hS, ok, .inr ⟨no, fun H1 s1 => ⟨true, E.caught .move, fun _ e he => ?_, fun z => nomatch z⟩⟩⟩
  refine ⟨.ref e, rfl, .move, rfl, rfl, rfl, fun H2 r s2 hr' er => ⟨szK (by simp), fun l hl => ?_⟩⟩
  have s3 := same_new (o := .lst [.str "move", .str "value"]) hl
  refine ⟨.list [.str "move", .str "value"], .list [.str "move", .str "value"], .lst (.inl (.inl (s3 _ _ er))) (.cons (.str _) (.cons (.str _) .nil)), .lst (.inl (.inl upd_same)) (.cons (.str _) (.cons (.str _) .nil)), by decide +kernel, by decide +kernel, ?_⟩
  rw [show PyData.eqv (.list [.str "move", .str "value"]) (.list [.str "move", .str "value"]) = true by decide +kernel]
  exact q _ (s1.trans (s2.trans s3))
end
end Slx

set_option Elab.async false
set_option linter.all false
set_option maxRecDepth 100000
set_option maxHeartbeats 4000000
namespace Slx
open PySem PySem.Spec PyProof.Rows L2 Sl
section
variable {P : Program} {w : World} {K : PySem.W.Frag} {mg : Str → Option Value} {base : Heap}
/-- is_move of any thing -/
def spIsMoveG (K : PySem.W.Frag) : Sp := fun vs H Q _ => ∃ (x : V) (n : Nat), vs = [x, .int (n : Nat)] ∧
  ((∃ Tn, TyB K H x Tn ∧ Tn ≠ "tuple" ∧ Q (.bl false) H) ∨ (∃ p xs, x = .ref p ∧ TupAt H p xs ∧ xs.length ≠ 2 ∧ Q (.bl false) H) ∨ (∃ p u v Tu, x = .ref p ∧ TupAt H p [u, v] ∧ TyB K H u Tu ∧ Tu ≠ "str" ∧ Q (.bl false) H) ∨
   (∃ p wd v Tv, x = .ref p ∧ TupAt H p [.str wd, v] ∧ TyB K H v Tv ∧ Q (.bl (isNum v 0 ((n : Int) - 1))) H))
theorem ok_isMoveG (T : Txt K mg) : DefOk P w K mg base 2 "is_move" ["thing", "trains"] (spIsMoveG K) := by
  have D_isNumber : DefOk P w K mg base 1 "is_number" ["thing", "least", "most"] (spIsNumber K) := ok_isNumber T
  refine T.f_isMove.ok sc_isMove (fun vs H Q E h => by obtain ⟨x, n, rfl, _⟩ := h; rfl) (fun f cdv A outer s H vs Q E hr h => ?_)
  obtain ⟨x, n, rfl, h⟩ := h
  refine ⟨_, (pss_cons (ps_if (PW.pt (pw_or (pt_cmpR op_notTyB (pe_callTy call_type1 (by rfl) T.b_type (by decide +kernel) (pa_cons (pv 0) pa_nil)) (pe_ty (T := "tuple") T.b_tuple (by decide +kernel)) (nomark _)) (pw_or1 (pt_cmpR op_ne (pe_callB call_len_seq (by rfl) T.b_len (by decide +kernel) (pa_cons (pv 0) pa_nil)) pe_int (nomark _))))) (pss_one (ps_ret pe_bl)) pss_nil)
      (pss_cons (ps_asg (pv 0) (pg_tup rfl (pgs_cons (pg_name (i := 2) sc_isMove.nd rfl (.inl rfl)) (pgs_cons (pg_name (i := 3) sc_isMove.nd rfl (.inl rfl)) pgs_nil))))
      (pss_one (ps_ret (pe_and (pe_cmpR op_isTyB (pe_callTy call_type1 (by rfl) T.b_type (by decide +kernel) (pa_cons (pv 2) pa_nil)) (pe_ty (T := "str") T.b_str (by decide +kernel)) (nomark _)) (pe_one (pe_def D_isNumber (hr.mono (by omega)) (pa_cons (pv 3) (pa_cons pe_int (pa_cons (pe_op op_sub (pv 1) pe_int) pa_nil)))))))))), ?_⟩
  rcases h with ⟨Tn, ty, ne, q⟩ | ⟨p, xs, rfl, tp, ne, q⟩ | ⟨p, u, v, Tu, rfl, tp, ty, ne, q⟩ | ⟨p, wd, v, Tv, rfl, tp, ty, q⟩
  · exact ⟨x, rfl, x, Tn, rfl, ty, Tn, "tuple", rfl, rfl, _, rfl, iteT' (by simp [ne]) (iteT' rfl q)⟩
  · have hT := tp.sq (K := K)
    refine ⟨.ref p, rfl, .ref p, "tuple", rfl, .tup hT, "tuple", "tuple", rfl, rfl, _, rfl, iteNS rfl ?_⟩
    exact ⟨.ref p, rfl, p, _, rfl, .inr hT, rfl, _, rfl, iteT' (by simp; omega) q⟩
  · have hT := tp.sq (K := K)
    refine ⟨.ref p, rfl, .ref p, "tuple", rfl, .tup hT, "tuple", "tuple", rfl, rfl, _, rfl, iteNS rfl ?_⟩
    refine ⟨.ref p, rfl, p, _, rfl, .inr hT, rfl, _, rfl, iteF' rfl ?_⟩
    refine ⟨.ref p, rfl, p, _, rfl, hT, rfl, _, _, rfl, _, _, rfl, rfl, ?_⟩
    exact ⟨u, rfl, u, Tu, rfl, ty, Tu, "str", rfl, rfl, _, rfl, iteF' (by simp [ne]) q⟩
  · have hT := tp.sq (K := K)
    refine ⟨.ref p, rfl, .ref p, "tuple", rfl, .tup hT, "tuple", "tuple", rfl, rfl, _, rfl, iteNS rfl ?_⟩
    refine ⟨.ref p, rfl, p, _, rfl, .inr hT, rfl, _, rfl, iteF' rfl ?_⟩
    refine ⟨.ref p, rfl, p, _, rfl, hT, rfl, _, _, rfl, _, _, rfl, rfl, ?_⟩
    refine ⟨.str wd, rfl, .str wd, "str", rfl, .str _, "str", "str", rfl, rfl, _, rfl, iteT' (decide_eq_true rfl) ?_⟩
    exact ⟨v, rfl, .int n, rfl, (n : Int), 1, rfl, rfl, v, Tv, 0, (n : Int) - 1, rfl, ty, q⟩
theorem choice_in {ln : List Int} {wy : List Bool} {S : Stand} {k : Nat} {ch : Mv × Spot} (h : ch ∈ choices ln wy S k) (hk : k < S.length) : ch.1 ∈ allowed ln wy S ∧ ch.1.2 = k := by
  obtain ⟨e, _⟩ := mem_choices (m := ch.1) (s := ch.2) h
  refine ⟨?_, e⟩
  unfold allowed allPairs
  exact List.mem_map.mpr ⟨ch, List.mem_flatMap.mpr ⟨k, List.mem_range.mpr hk, h⟩, rfl⟩
theorem eqv_other {m : Mv} {wd : Str} {k : Nat} (h : dW m.1 ≠ wd) : PyData.eqv (dM m) (.tuple [.str wd, .int (k : Nat)]) = false := by
  obtain ⟨w1, k1⟩ := m
  simp only [dM, PyData.eqv, PyData.eqvAll, Bool.and_true]
  rw [str_beq]
  have h' : ¬ dW w1 = wd := h
  simp [h']
theorem TyB.same {K : PySem.W.Frag} {H H' : Hp} {x : V} {Tn : String} (s : Same H H') (t : TyB K H x Tn) : TyB K H' x Tn := by
  cases t with
  | non => exact .non
  | bl b => exact .bl b
  | int i => exact .int i
  | str z => exact .str z
  | byt b => exact .byt b
  | lst h => exact .lst (s.seq h)
  | tup h => exact .tup (by
    rcases h with (h | ⟨o, h⟩) | h
    · exact .inl (.inl (s _ _ h))
    · exact .inl (.inr ⟨o, s _ _ h⟩)
    · exact .inr h)
  | dK h => exact .dK (s _ _ h)
/-- a pair of a text and a train, looked for among the moves -/
def Asks (H : Hp) (ln : List Int) (wy : List Bool) (S : Stand) (mv : V) (W : Mv × Spot → Prop) (N : Prop) : Prop := ∃ (p : Addr) (wd : Str) (k : Nat), mv = .ref p ∧ TupAt H p [.str wd, .int (k : Nat)] ∧ k < S.length ∧ SeqAt.shaped (.tuple [.str wd, .int (k : Nat)]) = true ∧
  (∀ ch ∈ choices ln wy S k, PyData.eqv (dM ch.1) (.tuple [.str wd, .int (k : Nat)]) = true → ch.1.2 = k → W ch) ∧ ((∀ ch ∈ choices ln wy S k, PyData.eqv (dM ch.1) (.tuple [.str wd, .int (k : Nat)]) = false) → N)
theorem ok_behindR (T : Txt K mg) {L : Addr} {C : Er → Addr} (E : Errs K mg L C) : DefOkR P w K mg base 5 "behind" ["lane", "ways", "stand", "move"] (spBehindR K C) := by
  have D_needStand : DefOk P w K mg base 4 "need_stand" ["lane", "ways", "stand"] (spNeedStand K) := ok_needStand T
  have D_isMove : DefOk P w K mg base 2 "is_move" ["thing", "trains"] (spIsMoveG K) := ok_isMoveG T
  have D_choices : DefOk P w K mg base 3 "choices" ["lane", "ways", "stand", "train"] (spChoices K) := ok_choices T
  refine T.f_behind.okR sc_behind (fun vs H Q E h => by obtain ⟨a, b, c, mv, ln, wy, S, rfl, _⟩ := h; rfl) (fun f cdv A outer s H vs Q XE hr h => ?_)
  obtain ⟨a, b, c, mv, ln, wy, S, rfl, hL, hW, hS, ok, h⟩ := h
  have cs : Asks H ln wy S mv (fun ch => ∀ H' q, Same H H' → StandAt H' q (S.set ch.1.2 ch.2) → Q (.ref q) H') (∀ H', Same H H' → XE (.ref (C .move)) none H') ∨
      (((∃ Tn, TyB K H mv Tn ∧ Tn ≠ "tuple") ∨ (∃ p xs, mv = .ref p ∧ TupAt H p xs ∧ xs.length ≠ 2) ∨ (∃ p u v Tu, mv = .ref p ∧ TupAt H p [u, v] ∧ TyB K H u Tu ∧ Tu ≠ "str") ∨ (∃ p wd v Tv, mv = .ref p ∧ TupAt H p [.str wd, v] ∧ TyB K H v Tv ∧ isNum v 0 ((S.length : Int) - 1) = false)) ∧ ∀ H', Same H H' → XE (.ref (C .move)) none H') := by
    rcases h with ⟨p, m, sp, rfl, hm, hk, hch, q⟩ | ⟨no, q⟩
    · refine .inl ⟨p, dW m.1, m.2, rfl, hm, hk, shaped_move m, fun ch hc e ek H' q' s' h' => ?_, fun hn => ?_⟩
      · have e1 : PyData.eqv (dM ch.1) (dM m) = true := e
        rw [eqv_move] at e1
        have e2 : ch.1 = m := of_decide_eq_true e1
        have hc' : (m, ch.2) ∈ choices ln wy S m.2 := by rw [← e2]; rw [← e2] at hc; exact hc
        have e3 := choice_one hc' hch
        rw [e2, e3] at h'
        exact q H' q' s' h'
      · have e1 : PyData.eqv (dM m) (dM m) = false := hn _ hch
        rw [eqv_move] at e1
        simp at e1
    · cases no with
      | other ty ne => exact .inr ⟨.inl ⟨_, ty, ne⟩, q⟩
      | long tp ne => exact .inr ⟨.inr (.inl ⟨_, _, rfl, tp, ne⟩), q⟩
      | word tp ty ne => exact .inr ⟨.inr (.inr (.inl ⟨_, _, _, _, rfl, tp, ty, ne⟩)), q⟩
      | train tp ty ne => exact .inr ⟨.inr (.inr (.inr ⟨_, _, _, _, rfl, tp, ty, ne⟩)), q⟩
      | @none p wd k tp hk sh nn =>
        refine .inl ⟨p, wd, k, rfl, tp, hk, sh, fun ch hc e ek => ?_, fun _ => q⟩
        obtain ⟨h1, h2⟩ := choice_in hc hk
        have h3 : (ch.1.1, k) ∈ allowed ln wy S := by rw [← h2]; exact h1
        rw [eqv_other (nn _ h3)] at e
        cases e
  clear h
  refine ⟨_, (pss_cons (ps_expr (pe_def D_needStand (hr.mono (by omega)) (pa_cons (pv 0) (pa_cons (pv 1) (pa_cons (pv 2) pa_nil)))))
      (pss_cons (ps_if (pt_not (pt_val (pe_def D_isMove (hr.mono (by omega)) (pa_cons (pv 3) (pa_cons (pe_callB call_len_seq (by rfl) T.b_len (by decide +kernel) (pa_cons (pv 2) pa_nil)) pa_nil))))) (pss_one (ps_err (E.at_ .move) rfl (L2N.takes_of rfl rfl rfl rfl))) pss_nil)
      (pss_cons (ps_set (i := 4) sc_behind.nd rfl (.inl rfl) (pe_ix (r := rIxT K) ix_tup (pv 3) pe_int (fun _ _ => rfl)))
      (pss_cons (ps_for (passes_of rfl) rfl (pi_listK (K := K) (pe_def D_choices (hr.mono (by omega)) (pa_cons (pv 0) (pa_cons (pv 1) (pa_cons (pv 2) (pa_cons (pv 4) pa_nil)))))) (pg_tup rfl (pgs_cons (pg_name (i := 5) sc_behind.nd rfl (.inl rfl)) (pgs_cons (pg_name (i := 6) sc_behind.nd rfl (.inl rfl)) pgs_nil))) (pss_one (ps_if (pt_cmpR (r := rEqD K) (op_eqD (hu64 hr)) (pv 5) (pv 3) (nomark _)) (pss_one (ps_ret (pe_op (r := rCatF K) op_catF (pe_op (r := rCatF K) op_catF (pe_slice (r := rSlF K) sl_tupF (pv 2) po_none (po_some (pv 4))) (pe_tupF (pa_cons (pv 6) pa_nil))) (pe_slice (r := rSlF K) sl_tupF (pv 2) (po_some (pe_op op_add (pv 4) pe_int)) po_none)))) pss_nil)))
      (pss_one (ps_err (E.at_ .move) rfl (L2N.takes_of rfl rfl rfl rfl))))))), ?_⟩
  refine ⟨.ref a, rfl, .ref b, rfl, .ref c, rfl, a, b, c, ln, wy, S, rfl, hL, hW, hS, ok, fun H1 s1 => ?_⟩
  obtain ⟨xs, ec, im⟩ := id hS
  have zl := StandAt.len im
  have z6 := stand_size ok im
  refine ⟨mv, rfl, .ref c, rfl, c, xs, rfl, .inr (Ti.of s1 _ _ ec).sq, mv, xs.length, rfl, ?_⟩
  rcases cs with ⟨p, wd, k, rfl, tp, hk, sh, win, lose⟩ | ⟨bad, q⟩
  · have tp1 := Ti.of s1 _ _ tp
    have en : isNum (.int (k : Nat)) 0 ((xs.length : Int) - 1) = true := by
      show (decide ((0 : Int) ≤ k) && decide ((k : Int) ≤ xs.length - 1)) = true
      rw [decide_eq_true (by omega), decide_eq_true (by omega)]
      rfl
    refine .inr (.inr (.inr ⟨p, wd, .int (k : Nat), "int", rfl, tp1, .int _, ?_⟩))
    rw [en]
    refine ⟨_, rfl, iteF' rfl ?_⟩
    refine ⟨.ref p, rfl, p, _, 1, _, rfl, rfl, tp1.sq, at1, ?_⟩
    refine ⟨.ref a, rfl, .ref b, rfl, .ref c, rfl, .int k, rfl, a, b, c, k, ln, wy, S, rfl, s1.seq hL, s1.seq hW, hS.mono (Ti.of s1), ok, hk, fun H2 d xs1 s2 hd ed id1 => ⟨d, rfl, ⟨_, .inl (.inl ed)⟩, ?_⟩⟩
    have s12 := s1.trans s2
    have lx : xs1.length = (choices ln wy S k).length := by rw [id1.length, List.length_map]
    refine for_it (walk_list (K := K) (a := d) (xs := xs1)) (fun i σ H3 => H3 = H2 ∧ (∃ y5 y6, σ = [some (.ref a), some (.ref b), some (.ref c), some (.ref p), some (.int k), y5, y6]) ∧ ∀ j ch, j < i → (choices ln wy S k)[j]? = some ch → PyData.eqv (dM ch.1) (.tuple [.str wd, .int (k : Nat)]) = false)
      ⟨rfl, ⟨none, none, rfl⟩, fun j ch hj _ => absurd hj (Nat.not_lt_zero j)⟩ (fun i σ H3 _ p3 => by rw [p3.1]; exact .inl (.inl ed)) (fun i x σ H3 H4 hi p3 y => ?_) (fun σ H3 p3 => ?_)
    · obtain ⟨rfl, ⟨y5, y6, rfl⟩, hno⟩ := p3
      obtain ⟨rfl, ex⟩ := y
      obtain ⟨dd, edd, imd⟩ := id1.getV ex
      rw [List.getElem?_map] at edd
      cases ech : (choices ln wy S k)[i]? with
      | none => rw [ech] at edd; cases edd
      | some ch =>
        rw [ech] at edd
        cases edd
        obtain ⟨t, u1, u2, rfl, tt, i1, i2⟩ := im_pair imd
        obtain ⟨tm, rfl, hmv⟩ := im_move i1
        obtain ⟨ts, rfl, hsp⟩ := im_spot i2
        have e2 : ch.1.2 = k := (choice_in (mem_of_some ech) hk).2
        refine ⟨t, _, rfl, tt.sq, rfl, _, _, rfl, _, _, rfl, rfl, ?_⟩
        refine ⟨.ref tm, rfl, .ref p, rfl, dM ch.1, .tuple [.str wd, .int (k : Nat)], hmv.im.dp, .tup (Ti.of s2 _ _ tp1).sq (.cons (.str _) (.cons (.int _) .nil)), shaped_move _, sh, _, rfl, ?_⟩
        refine ite2 (fun e => ?_) (fun e => ?_)
        · have w0 : ∀ (H' : Hp) (q : Addr), Same H H' → StandAt H' q (S.set ch.1.2 ch.2) → Q (.ref q) H' := win ch (mem_of_some ech) e e2
          rw [e2] at w0
          refine ⟨.ref c, rfl, .int k, rfl, k, rfl, slF (Ti.of s12 _ _ ec) fun H5 p5 s5 t5 => ?_⟩
          rw [cut_to (by omega)] at t5
          refine ⟨.ref ts, rfl, one_size, nT_q fun H6 p6 s6 t6 => catF (Ti.of s6 _ _ t5) t6 (by simp [sizeLine_eq]; omega) fun H7 p7 s7 t7 => ?_⟩
          have s57 := (s5.trans s6).trans s7
          refine ⟨.ref c, rfl, .int k, rfl, (k : Int), 1, rfl, rfl, (k : Int) + 1, rfl, ?_⟩
          show rSlF K (.ref c) (some ((k : Int) + 1)) none H7 fun y H2 => rCatF K (.ref p7) y H2 Q
          refine slF (Ti.of (s12.trans s57) _ _ ec) fun H8 p8 s8 t8 => ?_
          have t8' : TupAt H8 p8 (xs.drop (k + 1)) := by
            have e2 : cutV xs (some ((k : Int) + 1)) none = xs.drop (k + 1) := by
              have := cut_from (xs := xs) (k := k + 1) (by omega)
              rw [← this]
              congr 2
            rw [← e2]
            exact t8
          refine catF (Ti.of s8 _ _ t7) t8' (by simp [sizeLine_eq]; omega) fun H9 p9 s9 t9 => ?_
          rw [set_parts (by omega)] at t9
          have s29 := (s57.trans s8).trans s9
          refine w0 H9 p9 (s12.trans s29) ⟨_, t9, ?_⟩
          rw [List.map_set]
          exact ImAll.set (SpotAt.im (Ti.of s29 _ _ hsp)) k (im.mono (Ti.of (s12.trans s29)))
        · refine ⟨rfl, ⟨_, _, rfl⟩, fun j c2 hj ej => ?_⟩
          by_cases hji : j = i
          · subst hji
            rw [ech] at ej
            cases ej
            exact Bool.eq_false_iff.mpr e
          · exact hno j c2 (by omega) ej
    · obtain ⟨rfl, _, hno⟩ := p3
      refine lose (fun ch hc => ?_) _ s12
      obtain ⟨j, hj, ej⟩ := List.getElem_of_mem hc
      exact hno j ch (by omega) (by rw [List.getElem?_eq_getElem hj, ej])
  · rcases bad with ⟨Tn, ty, ne⟩ | ⟨p, ys, rfl, tp, ne⟩ | ⟨p, u, v, Tu, rfl, tp, ty, ne⟩ | ⟨p, wd, v, Tv, rfl, tp, ty, ne⟩
    · exact .inl ⟨Tn, TyB.same s1 ty, ne, _, rfl, iteT' rfl (q _ s1)⟩
    · exact .inr (.inl ⟨p, ys, rfl, Ti.of s1 _ _ tp, ne, _, rfl, iteT' rfl (q _ s1)⟩)
    · exact .inr (.inr (.inl ⟨p, u, v, Tu, rfl, Ti.of s1 _ _ tp, TyB.same s1 ty, ne, _, rfl, iteT' rfl (q _ s1)⟩))
    · refine .inr (.inr (.inr ⟨p, wd, v, Tv, rfl, Ti.of s1 _ _ tp, TyB.same s1 ty, ?_⟩))
      rw [zl, ne]
      exact ⟨_, rfl, iteT' rfl (q _ s1)⟩
end
end Slx

set_option Elab.async false
set_option linter.all false
set_option maxRecDepth 100000
set_option maxHeartbeats 4000000
namespace Slx
open PySem PySem.Spec PyProof.Rows L2 Sl
theorem every_nil {Q : V → Prop} : ∀ y ∈ ([] : List V), Q y := fun y hy => nomatch hy
theorem every_cons {Q : V → Prop} {x : V} {l : List V} (h : Q x) (t : ∀ y ∈ l, Q y) : ∀ y ∈ x :: l, Q y := fun y hy => (List.mem_cons.mp hy).elim (fun e => e ▸ h) (t y)
theorem every_app {Q : V → Prop} {l m : List V} (a : ∀ y ∈ l, Q y) (b : ∀ y ∈ m, Q y) : ∀ y ∈ l ++ m, Q y := fun y hy => (List.mem_append.mp hy).elim (a y) (b y)
theorem odd_word {K : PySem.W.Frag} {H : Hp} {ln : List Int} {wy : List Bool} {S : Stand} {p : Addr} {wd : Str} (t : TupAt H p [.str wd, .int 0]) (o : 1 ≤ S.length) (ne : ∀ w : Wd, dW w ≠ wd) (sh : SeqAt.shaped (.tuple [.str wd, .int 0]) = true) : NoMv K H ln wy S (.ref p) := .none (k := 0) t o sh fun w _ => ne w
theorem odd_cap (w : Wd) : dW w ≠ "Go" := by cases w <;> decide
theorem odd_back (w : Wd) : dW w ≠ "back" := by cases w <;> decide
theorem odd_out (w : Wd) : dW w ≠ "out" := by cases w <;> decide
theorem odd_capS : SeqAt.shaped (.tuple [.str "Go", .int 0]) = true := by decide +kernel
theorem odd_backS : SeqAt.shaped (.tuple [.str "back", .int 0]) = true := by decide +kernel
theorem odd_outS : SeqAt.shaped (.tuple [.str "out", .int 0]) = true := by decide +kernel
section
variable {P : Program} {w : World} {K : PySem.W.Frag} {mg : Str → Option Value} {base : Heap}
/-- things that are no allowed move -/
def spOdd (K : PySem.W.Frag) : Sp := fun vs H Q _ => ∃ (ce : Int) (ln : List Int) (wy : List Bool) (S : Stand), vs = [.int ce, .int (S.length : Nat)] ∧ 1 ≤ S.length ∧ S.length ≤ 6 ∧ ∀ H' x, Same H H' → NoMv K H' ln wy S x → Q x H'
theorem ok_lOdd (T : Txt K mg) : DefOk P w K mg base 1 "_law_odd" ["_law_cell", "_law_trains"] (spOdd K) := by
  refine T.f_lOdd.ok sc_lOdd (fun vs H Q E h => by obtain ⟨ce, ln, wy, S, rfl, _⟩ := h; rfl) (fun f cdv A outer s H vs Q E hr h => ?_)
  obtain ⟨ce, ln, wy, S, rfl, o1, o6, q⟩ := h
  refine ⟨_, (pss_cons (ps_set (i := 2) sc_lOdd.nd rfl (.inl rfl) (pe_op op_add (pv 1) (pe_op op_mod (pe_op op_fdiv (pv 0) pe_int) (pe_op op_pow pe_int pe_int))))
      (pss_cons (ps_set (i := 3) sc_lOdd.nd rfl (.inl rfl) (pe_lst (pa_cons (pe_tupF (pa_cons pe_str (pa_cons (pv 1) pa_nil))) (pa_cons (pe_tupF (pa_cons pe_str (pa_cons (pe_un un_neg pe_int) pa_nil))) (pa_cons (pe_tupF (pa_cons pe_str (pa_cons (pv 2) pa_nil))) (pa_cons (pe_tupF (pa_cons pe_str (pa_cons pe_bl pa_nil))) (pa_cons (pe_tupF (pa_cons pe_str (pa_cons pe_bl pa_nil))) (pa_cons (pe_tupF (pa_cons pe_str (pa_cons pe_non pa_nil))) (pa_cons (pe_tupF (pa_cons pe_str (pa_cons pe_str pa_nil))) pa_nil)))))))))
      (pss_cons (ps_set (i := 3) sc_lOdd.nd rfl (.inl rfl) (pe_op op_cat (pv 3) (pe_lst (pa_cons (pe_tupF (pa_cons pe_str pa_nil)) (pa_cons (pe_tupF (pa_cons pe_str (pa_cons pe_int (pa_cons pe_int pa_nil)))) (pa_cons (pe_lst (pa_cons pe_str (pa_cons pe_int pa_nil))) (pa_cons (pe_tupF (pa_cons pe_str (pa_cons pe_int pa_nil))) (pa_cons (pe_tupF (pa_cons pe_str (pa_cons pe_int pa_nil))) (pa_cons pe_non (pa_cons pe_str (pa_cons pe_int (pa_cons (pe_tupF pa_nil) (pa_cons (pe_tupF (pa_cons pe_str (pa_cons pe_int pa_nil))) pa_nil)))))))))))))
      (pss_cons (ps_set (i := 3) sc_lOdd.nd rfl (.inl rfl) (pe_op op_cat (pv 3) (pe_lst (pa_cons (pe_tupF (pa_cons (pe_lst (pa_cons pe_str pa_nil)) (pa_cons pe_int pa_nil))) (pa_cons (pe_tupF (pa_cons pe_int (pa_cons pe_str pa_nil))) pa_nil)))))
      (pss_one (ps_ret (pe_ix (r := rIxL K) ix_list (pe_op op_cat (pv 3) (pe_lst (pa_cons (pe_tupF (pa_cons pe_str (pa_cons (pe_lst (pa_cons pe_int pa_nil)) pa_nil))) pa_nil))) (pe_op op_mod (pv 0) pe_int) (fun _ _ => rfl)))))))), ?_⟩
  refine ⟨.int (S.length : Nat), rfl, .int ce, rfl, ce, 20, rfl, rfl, ⟨by decide, by decide⟩, 10, 20, rfl, rfl, ⟨by decide, by decide, by decide⟩, _, _, rfl, rfl, (by show (0 : Int) < 10 ^ 20; decide), _, _, rfl, rfl, ?_⟩
  have g0 := Int.emod_nonneg (ce / 20) (show ((10 : Int) ^ (20 : Int).toNat) ≠ 0 by decide)
  generalize ce / 20 % (10 : Int) ^ (20 : Int).toNat = far at g0
  have two : ∀ {u v : V}, [u, v].length ≤ sizeLine := szK (by simp)
  refine ⟨.int (S.length : Nat), rfl, two, nT_q fun H1 t1 s1 q1 => ?_⟩
  refine ⟨1, rfl, two, nT_q fun H2 t2 s2 q2 => ?_⟩
  refine ⟨.int ((S.length : Nat) + far), rfl, two, nT_q fun H3 t3 s3 q3 => ?_⟩
  refine ⟨two, nT_q fun H4 t4 s4 q4 => ?_⟩
  refine ⟨two, nT_q fun H5 t5 s5 q5 => ?_⟩
  refine ⟨two, nT_q fun H6 t6 s6 q6 => ?_⟩
  refine ⟨two, nT_q fun H7 t7 s7 q7 => ⟨szK (by simp), fun l1 hl1 => ?_⟩⟩
  have z1 := same_new (o := .lst [.ref t1, .ref t2, .ref t3, .ref t4, .ref t5, .ref t6, .ref t7]) hl1
  have e1 : (upd H7 l1 (.lst [.ref t1, .ref t2, .ref t3, .ref t4, .ref t5, .ref t6, .ref t7])) l1 = some (.lst [.ref t1, .ref t2, .ref t3, .ref t4, .ref t5, .ref t6, .ref t7]) := upd_same
  generalize upd H7 l1 (.lst [.ref t1, .ref t2, .ref t3, .ref t4, .ref t5, .ref t6, .ref t7]) = G1 at z1 e1
  refine ⟨.ref l1, rfl, ?_⟩
  refine ⟨szK (by simp), nT_q fun H8 t8 s8 q8 => ?_⟩
  refine ⟨szK (by simp), nT_q fun H9 t9 s9 q9 => ?_⟩
  refine ⟨two, fun i1 hi1 => ?_⟩
  have z2 := same_new (o := .lst [.str "go", .int 0]) hi1
  have e2 : (upd H9 i1 (.lst [.str "go", .int 0])) i1 = some (.lst [.str "go", .int 0]) := upd_same
  generalize upd H9 i1 (.lst [.str "go", .int 0]) = G2 at z2 e2
  refine ⟨two, nT_q fun H10 t10 s10 q10 => ?_⟩
  refine ⟨two, nT_q fun H11 t11 s11 q11 => ?_⟩
  refine ⟨szK (by simp), nT_q fun H12 t12 s12 q12 => ?_⟩
  refine ⟨two, nT_q fun H13 t13 s13 q13 => ⟨szK (by simp), fun l2 hl2 => ?_⟩⟩
  have z3 := same_new (o := .lst [.ref t8, .ref t9, .ref i1, .ref t10, .ref t11, .non, .str "go", .int 0, .ref t12, .ref t13]) hl2
  have e3 : (upd H13 l2 (.lst [.ref t8, .ref t9, .ref i1, .ref t10, .ref t11, .non, .str "go", .int 0, .ref t12, .ref t13])) l2 = some (.lst [.ref t8, .ref t9, .ref i1, .ref t10, .ref t11, .non, .str "go", .int 0, .ref t12, .ref t13]) := upd_same
  generalize upd H13 l2 (.lst [.ref t8, .ref t9, .ref i1, .ref t10, .ref t11, .non, .str "go", .int 0, .ref t12, .ref t13]) = G3 at z3 e3
  have w13 : Same G1 G3 := s8.trans (s9.trans (z2.trans (s10.trans (s11.trans (s12.trans (s13.trans z3))))))
  refine ⟨l1, l2, _, _, rfl, rfl, w13 _ _ e1, e3, szK (by simp), fun l3 hl3 => ?_⟩
  have z4 := same_new (o := .lst ([.ref t1, .ref t2, .ref t3, .ref t4, .ref t5, .ref t6, .ref t7] ++ [.ref t8, .ref t9, .ref i1, .ref t10, .ref t11, .non, .str "go", .int 0, .ref t12, .ref t13])) hl3
  have e4 : (upd G3 l3 (.lst ([.ref t1, .ref t2, .ref t3, .ref t4, .ref t5, .ref t6, .ref t7] ++ [.ref t8, .ref t9, .ref i1, .ref t10, .ref t11, .non, .str "go", .int 0, .ref t12, .ref t13]))) l3 = some (.lst ([.ref t1, .ref t2, .ref t3, .ref t4, .ref t5, .ref t6, .ref t7] ++ [.ref t8, .ref t9, .ref i1, .ref t10, .ref t11, .non, .str "go", .int 0, .ref t12, .ref t13])) := upd_same
  generalize upd G3 l3 (.lst ([.ref t1, .ref t2, .ref t3, .ref t4, .ref t5, .ref t6, .ref t7] ++ [.ref t8, .ref t9, .ref i1, .ref t10, .ref t11, .non, .str "go", .int 0, .ref t12, .ref t13])) = G4 at z4 e4
  refine ⟨.ref l3, rfl, ?_⟩
  refine ⟨szK (by simp), fun i2 hi2 => ?_⟩
  have z5 := same_new (o := .lst [.str "go"]) hi2
  have e5 : (upd G4 i2 (.lst [.str "go"])) i2 = some (.lst [.str "go"]) := upd_same
  generalize upd G4 i2 (.lst [.str "go"]) = G5 at z5 e5
  refine ⟨two, nT_q fun H14 t14 s14 q14 => ?_⟩
  refine ⟨two, nT_q fun H15 t15 s15 q15 => ⟨szK (by simp), fun l4 hl4 => ?_⟩⟩
  have z6 := same_new (o := .lst [.ref t14, .ref t15]) hl4
  have e6 : (upd H15 l4 (.lst [.ref t14, .ref t15])) l4 = some (.lst [.ref t14, .ref t15]) := upd_same
  generalize upd H15 l4 (.lst [.ref t14, .ref t15]) = G6 at z6 e6
  have w46 : Same G4 G6 := z5.trans (s14.trans (s15.trans z6))
  refine ⟨l3, l4, _, _, rfl, rfl, w46 _ _ e4, e6, szK (by simp), fun l5 hl5 => ?_⟩
  have z7 := same_new (o := .lst (([.ref t1, .ref t2, .ref t3, .ref t4, .ref t5, .ref t6, .ref t7] ++ [.ref t8, .ref t9, .ref i1, .ref t10, .ref t11, .non, .str "go", .int 0, .ref t12, .ref t13]) ++ [.ref t14, .ref t15])) hl5
  have e7 : (upd G6 l5 (.lst (([.ref t1, .ref t2, .ref t3, .ref t4, .ref t5, .ref t6, .ref t7] ++ [.ref t8, .ref t9, .ref i1, .ref t10, .ref t11, .non, .str "go", .int 0, .ref t12, .ref t13]) ++ [.ref t14, .ref t15]))) l5 = some (.lst (([.ref t1, .ref t2, .ref t3, .ref t4, .ref t5, .ref t6, .ref t7] ++ [.ref t8, .ref t9, .ref i1, .ref t10, .ref t11, .non, .str "go", .int 0, .ref t12, .ref t13]) ++ [.ref t14, .ref t15])) := upd_same
  generalize upd G6 l5 (.lst (([.ref t1, .ref t2, .ref t3, .ref t4, .ref t5, .ref t6, .ref t7] ++ [.ref t8, .ref t9, .ref i1, .ref t10, .ref t11, .non, .str "go", .int 0, .ref t12, .ref t13]) ++ [.ref t14, .ref t15])) = G7 at z7 e7
  refine ⟨.ref l5, rfl, ?_⟩
  refine ⟨szK (by simp), fun i3 hi3 => ?_⟩
  have z8 := same_new (o := .lst [.int 0]) hi3
  have e8 : (upd G7 i3 (.lst [.int 0])) i3 = some (.lst [.int 0]) := upd_same
  generalize upd G7 i3 (.lst [.int 0]) = G8 at z8 e8
  refine ⟨two, nT_q fun H16 t16 s16 q16 => ⟨szK (by simp), fun l6 hl6 => ?_⟩⟩
  have z9 := same_new (o := .lst [.ref t16]) hl6
  have e9 : (upd H16 l6 (.lst [.ref t16])) l6 = some (.lst [.ref t16]) := upd_same
  generalize upd H16 l6 (.lst [.ref t16]) = G9 at z9 e9
  have w79 : Same G7 G9 := z8.trans (s16.trans z9)
  refine ⟨l5, l6, _, _, rfl, rfl, w79 _ _ e7, e9, szK (by simp), fun l7 hl7 => ?_⟩
  have zA := same_new (o := .lst ((([.ref t1, .ref t2, .ref t3, .ref t4, .ref t5, .ref t6, .ref t7] ++ [.ref t8, .ref t9, .ref i1, .ref t10, .ref t11, .non, .str "go", .int 0, .ref t12, .ref t13]) ++ [.ref t14, .ref t15]) ++ [.ref t16])) hl7
  have eA : (upd G9 l7 (.lst ((([.ref t1, .ref t2, .ref t3, .ref t4, .ref t5, .ref t6, .ref t7] ++ [.ref t8, .ref t9, .ref i1, .ref t10, .ref t11, .non, .str "go", .int 0, .ref t12, .ref t13]) ++ [.ref t14, .ref t15]) ++ [.ref t16]))) l7 = some (.lst ((([.ref t1, .ref t2, .ref t3, .ref t4, .ref t5, .ref t6, .ref t7] ++ [.ref t8, .ref t9, .ref i1, .ref t10, .ref t11, .non, .str "go", .int 0, .ref t12, .ref t13]) ++ [.ref t14, .ref t15]) ++ [.ref t16])) := upd_same
  generalize upd G9 l7 (.lst ((([.ref t1, .ref t2, .ref t3, .ref t4, .ref t5, .ref t6, .ref t7] ++ [.ref t8, .ref t9, .ref i1, .ref t10, .ref t11, .non, .str "go", .int 0, .ref t12, .ref t13]) ++ [.ref t14, .ref t15]) ++ [.ref t16])) = GA at zA eA
  -- what stands at the end
  have u16 : Same H16 GA := z9.trans zA
  have u8 : Same G8 GA := s16.trans u16
  have u7 : Same G7 GA := z8.trans u8
  have u15 : Same H15 GA := z6.trans (z7.trans u7)
  have u14 : Same H14 GA := s15.trans u15
  have u5 : Same G5 GA := s14.trans u14
  have u4 : Same G4 GA := z5.trans u5
  have u13 : Same H13 GA := z3.trans (z4.trans u4)
  have u12 := s13.trans u13
  have u11 := s12.trans u12
  have u10 := s11.trans u11
  have uG2 := s10.trans u10
  have u9 := z2.trans uG2
  have uh8 := s9.trans u9
  have uG1 := s8.trans uh8
  have uh7 := z1.trans uG1
  have uh6 := s7.trans uh7
  have uh5 := s6.trans uh6
  have uh4 := s5.trans uh5
  have uh3 := s4.trans uh4
  have uh2 := s3.trans uh3
  have uh1 := s2.trans uh2
  have tot : Same H GA := s1.trans uh1
  have big : isNum (.int (S.length : Nat)) 0 ((S.length : Int) - 1) = false := by
    show (decide ((0 : Int) ≤ (S.length : Nat)) && decide (((S.length : Nat) : Int) ≤ (S.length : Int) - 1)) = false
    rw [decide_eq_false (show ¬ (((S.length : Nat) : Int) ≤ (S.length : Int) - 1) by omega), Bool.and_false]
  have neg : isNum (.int (-1)) 0 ((S.length : Int) - 1) = false := by
    show (decide ((0 : Int) ≤ -1) && decide ((-1 : Int) ≤ (S.length : Int) - 1)) = false
    rw [decide_eq_false (show ¬ ((0 : Int) ≤ -1) by decide), Bool.false_and]
  have farther : isNum (.int ((S.length : Nat) + far)) 0 ((S.length : Int) - 1) = false := by
    show (decide ((0 : Int) ≤ (S.length : Nat) + far) && decide (((S.length : Nat) : Int) + far ≤ (S.length : Int) - 1)) = false
    rw [decide_eq_false (show ¬ (((S.length : Nat) : Int) + far ≤ (S.length : Int) - 1) by omega), Bool.and_false]
  have all20 : ∀ x ∈ ((([.ref t1, .ref t2, .ref t3, .ref t4, .ref t5, .ref t6, .ref t7] ++ [.ref t8, .ref t9, .ref i1, .ref t10, .ref t11, .non, .str "go", .int 0, .ref t12, .ref t13]) ++ [.ref t14, .ref t15]) ++ [.ref t16] : List V), NoMv K GA ln wy S x :=
    every_app (every_app (every_app
      (every_cons (.train (Ti.of uh1 _ _ q1) (.int _) big) (every_cons (.train (Ti.of uh2 _ _ q2) (.int _) neg) (every_cons (.train (Ti.of uh3 _ _ q3) (.int _) farther) (every_cons (.train (Ti.of uh4 _ _ q4) (.bl _) rfl) (every_cons (.train (Ti.of uh5 _ _ q5) (.bl _) rfl) (every_cons (.train (Ti.of uh6 _ _ q6) .non rfl) (every_cons (.train (Ti.of uh7 _ _ q7) (.str _) rfl) every_nil)))))))
      (every_cons (.long (Ti.of uh8 _ _ q8) (by decide)) (every_cons (.long (Ti.of u9 _ _ q9) (by decide)) (every_cons (.other (.lst (.inl (.inl (uG2 _ _ e2)))) (by decide)) (every_cons (odd_word (Ti.of u10 _ _ q10) o1 odd_cap odd_capS) (every_cons (odd_word (Ti.of u11 _ _ q11) o1 odd_back odd_backS) (every_cons (.other .non (by decide)) (every_cons (.other (.str _) (by decide)) (every_cons (.other (.int _) (by decide)) (every_cons (.long (Ti.of u12 _ _ q12) (by decide)) (every_cons (odd_word (Ti.of u13 _ _ q13) o1 odd_out odd_outS) every_nil)))))))))))
      (every_cons (.word (Ti.of u14 _ _ q14) (.lst (.inl (.inl (u5 _ _ e5)))) (by decide)) (every_cons (.word (Ti.of u15 _ _ q15) (.int _) (by decide)) every_nil)))
      (every_cons (.train (Ti.of u16 _ _ q16) (.lst (.inl (.inl (u8 _ _ e8)))) rfl) every_nil)
  have m0 := Int.emod_nonneg ce (show (20 : Int) ≠ 0 by decide)
  have m1 := Int.emod_lt_of_pos ce (show (0 : Int) < 20 by decide)
  obtain ⟨k, hk⟩ : ∃ k : Nat, ce % 20 = k := ⟨_, (Int.toNat_of_nonneg m0).symm⟩
  refine ⟨.int ce, rfl, ce, 20, rfl, rfl, (by show (0 : Int) < 20; decide), ?_⟩
  dsimp only
  rw [hk]
  have hlt : k < ((([.ref t1, .ref t2, .ref t3, .ref t4, .ref t5, .ref t6, .ref t7] ++ [.ref t8, .ref t9, .ref i1, .ref t10, .ref t11, .non, .str "go", .int 0, .ref t12, .ref t13]) ++ [.ref t14, .ref t15]) ++ [.ref t16] : List V).length := by
    rw [List.length_append, List.length_append, List.length_append]
    show k < 20
    omega
  have hx := List.getElem?_eq_getElem hlt
  exact ⟨l7, _, (k : Int), _, rfl, rfl, .inl (.inl eA), atI_nat hx, q GA _ tot (all20 _ (mem_of_some hx))⟩
end
end Slx

set_option Elab.async false
set_option linter.all false
set_option maxRecDepth 100000
set_option maxHeartbeats 4000000
namespace Slx
open PySem PySem.Spec PyProof.Rows L2 Sl
section
variable {P : Program} {w : World} {K : PySem.W.Frag} {mg : Str → Option Value} {base : Heap}
/-- a cell of the script -/
def cell (ns : List Int) (k : Nat) : Int := ns.getD k 0
def spCellAt (K : PySem.W.Frag) : Sp := fun vs H Q _ => ∃ a ns k, vs = [.ref a, .int ((k : Nat) : Int)] ∧ SqL K H a (ns.map V.int) ∧ Q (.int (cell ns k)) H
theorem ok_cellAt (T : Txt K mg) : DefOk P w K mg base 1 "_law_cell_at" ["_law_script", "_law_k"] (spCellAt K) := by
  refine T.f_lCellAt.ok sc_lCellAt (fun vs H Q E h => by obtain ⟨a, ns, k, rfl, _⟩ := h; rfl) (fun f cdv A outer s H vs Q E hr h => ?_)
  obtain ⟨a, ns, k, rfl, hL, q⟩ := h
  refine ⟨_, (pss_cons (ps_if (pt_cmpR op_lt (pv 1) (pe_callB call_len_seq (by rfl) T.b_len (by decide +kernel) (pa_cons (pv 0) pa_nil)) (nomark _)) (pss_one (ps_ret (pe_ix (r := rIxL K) ix_list (pv 0) (pv 1) (fun _ _ => rfl)))) pss_nil)
      (pss_one (ps_ret pe_int))), ?_⟩
  refine ⟨.int k, rfl, .ref a, rfl, a, _, rfl, .inl hL, _, _, rfl, rfl, _, rfl, ite2 (fun e => ?_) (fun e => ?_)⟩
  · have hk : k < ns.length := by
      have := of_decide_eq_true e
      rw [List.length_map] at this
      omega
    exact ⟨.ref a, rfl, .int k, rfl, a, _, (k : Int), _, rfl, rfl, hL, lane_at hk, q⟩
  · have hk : ¬ k < ns.length := fun z => e (decide_eq_true (by rw [List.length_map]; omega))
    have e2 : cell ns k = 0 := by
      unfold cell
      rw [List.getD_eq_getElem?_getD, List.getElem?_eq_none (by omega)]
      rfl
    rw [e2] at q
    exact q
def spWhole : Sp := fun vs H Q _ => ∃ i, vs = [.int i] ∧ Q (.bl true) H
theorem ok_whole (T : Txt K mg) : DefOk P w K mg base 1 "_law_whole" ["_law_found"] spWhole := by
  refine T.f_lWhole.ok sc_lWhole (fun vs H Q E h => by obtain ⟨i, rfl, _⟩ := h; rfl) (fun f cdv A outer s H vs Q E hr h => ?_)
  obtain ⟨i, rfl, q⟩ := h
  refine ⟨_, (pss_one (ps_ret (pe_and (pe_callB (r := rIsi K) (id := "isinstance") call_isi (by rfl) T.b_isinstance (by decide +kernel) (pa_cons (pv 0) (pa_cons (pe_ty (T := "int") T.b_int (by decide +kernel)) pa_nil))) (pe_one (pe_not (pe_callB (r := rIsi K) (id := "isinstance") call_isi (by rfl) T.b_isinstance (by decide +kernel) (pa_cons (pv 0) (pa_cons (pe_ty (T := "bool") T.b_bool (by decide +kernel)) pa_nil)))))))), ?_⟩
  refine ⟨.int i, rfl, .int i, .ty "int", .type "int", .type "int", true, rfl, .ty _, .base (.int i), by rfl, _, rfl, iteT ?_⟩
  exact ⟨.int i, rfl, .int i, .ty "bool", .type "int", .type "bool", false, rfl, .ty _, .base (.int i), kit_ty (by decide +kernel), _, rfl, q⟩
/-- what the law makes of the script's cells for its draws: some whole number -/
def spMixed (K : PySem.W.Frag) : Sp := fun vs H Q _ => ∃ a, ∃ ns : List Int, ∃ k, vs = [.ref a, .int ((k : Nat) : Int)] ∧ SqL K H a (ns.map V.int) ∧ k ≤ 100 ∧ ∀ m, Q (.int m) H
theorem ok_mixed (T : Txt K mg) : DefOk P w K mg base 2 "_law_mixed" ["_law_script", "_law_k"] (spMixed K) := by
  have D_lCellAt : DefOk P w K mg base 1 "_law_cell_at" ["_law_script", "_law_k"] (spCellAt K) := ok_cellAt T
  refine T.f_lMixed.ok sc_lMixed (fun vs H Q E h => by obtain ⟨a, ns, k, rfl, _⟩ := h; rfl) (fun f cdv A outer s H vs Q E hr h => ?_)
  obtain ⟨a, ns, k, rfl, hL, hk, q⟩ := h
  refine ⟨_, (pss_cons (ps_set (i := 2) sc_lMixed.nd rfl (.inl rfl) (pe_op op_add (pe_def D_lCellAt (hr.mono (by omega)) (pa_cons (pv 0) (pa_cons pe_int pa_nil))) (pe_op op_mul pe_int (pe_def D_lCellAt (hr.mono (by omega)) (pa_cons (pv 0) (pa_cons pe_int pa_nil))))))
      (pss_one (ps_ret (pe_op op_fdiv (pe_op op_mod (pe_op op_mul (pe_op op_mod (pe_op op_add (pe_op op_add (pe_def D_lCellAt (hr.mono (by omega)) (pa_cons (pv 0) (pa_cons (pv 1) pa_nil))) (pe_op op_mul (pv 2) (pe_op op_add (pv 1) pe_int))) (pe_op op_mul pe_int (pv 1))) pe_int) pe_int) pe_int) pe_int)))), ?_⟩
  refine ⟨.ref a, rfl, a, ns, 0, rfl, hL, .ref a, rfl, a, ns, 1, rfl, hL, _, _, rfl, rfl, .inl ⟨by decide, by decide⟩, _, _, rfl, rfl, ?_⟩
  refine ⟨.ref a, rfl, .int k, rfl, a, ns, k, rfl, hL, _, rfl, .int k, rfl, _, _, rfl, rfl, _, _, rfl, rfl, .inr ⟨by omega, by omega⟩, _, _, rfl, rfl, .int k, rfl, _, _, rfl, rfl, .inl ⟨by decide, by decide⟩, _, _, rfl, rfl, ?_⟩
  refine ⟨_, _, rfl, rfl, (by show (0 : Int) < 1000000007; decide), ?_⟩
  generalize cell ns k + (cell ns 0 + 3 * cell ns 1) * ((k : Int) + 1) + 104729 * (k : Int) = z
  have h1 := Int.emod_nonneg z (show (1000000007 : Int) ≠ 0 by decide)
  have h2 := Int.emod_lt_of_pos z (show (0 : Int) < 1000000007 by decide)
  refine ⟨_, _, rfl, rfl, .inl ⟨by omega, by omega⟩, _, _, rfl, rfl, (by show (0 : Int) < 2147483647; decide), _, _, rfl, rfl, ⟨by decide, by decide⟩, q _⟩
theorem shaped_list (S : Stand) : SeqAt.shaped (.list (S.map dS)) = true := by
  unfold SeqAt.shaped
  rw [show PyData.canLay0 (.list (S.map dS)) = true from canLay_spots S]
  have := depth_spots S
  have h : PyData.depth (.list (S.map dS)) ≤ 64 := by
    simp only [PyData.depth]; omega
  rw [decide_eq_true h]
  rfl
def spotsOf (n : Nat) : List Spot := (List.range n).map Spot.lane ++ (List.range n).map Spot.side
theorem spotsOf_ok {ln : List Int} {s : Spot} (h : s ∈ spotsOf ln.length) : okSpot ln s ∧ s ≠ .out := by
  rcases List.mem_append.mp h with h | h
  · obtain ⟨k, hk, rfl⟩ := List.mem_map.mp h
    exact ⟨List.mem_range.mp hk, by simp⟩
  · obtain ⟨k, hk, rfl⟩ := List.mem_map.mp h
    exact ⟨List.mem_range.mp hk, by simp⟩
/-- a list of ImAll by places -/
theorem im_of {H : Hp} {ys : List V} {n : Nat} {f : Nat → PyData} (hl : ys.length = n) (h : ∀ (i : Nat) (y : V), ys[i]? = some y → Im H y (f i)) : ImAll H ys ((List.range n).map f) := by
  refine ImAll.of (by simp [hl]) fun i v d hv hd => ?_
  have hi : i < n := by rw [← hl]; exact lt_of_some hv
  have e : d = f i := by
    rw [List.getElem?_map, List.getElem?_range hi] at hd
    exact (Option.some.inj hd).symm
  rw [e]
  exact h i v hv
def spLSpot (K : PySem.W.Frag) : Sp := fun vs H Q _ => ∃ a c ln xs S ce, vs = [.ref a, .ref c, .int ce] ∧ LaneAt K H a ln ∧ OkLane ln ∧ H c = some (.lst xs) ∧ ImAll H xs (S.map dS) ∧
  ∀ H' p sp, Same H H' → SpotAt H' p sp → okSpot ln sp → (sp = .out ∨ hasRoom ln S sp = true) → Q (.ref p) H'
theorem ok_lSpot (T : Txt K mg) : DefOk P w K mg base 1 "_law_spot" ["_law_lane", "_law_stand", "_law_cell"] (spLSpot K) := by
  refine T.f_lSpot.ok sc_lSpot (fun vs H Q E h => by obtain ⟨a, c, ln, xs, S, ce, rfl, _⟩ := h; rfl) (fun f cdv A outer s H vs Q E hr h => ?_)
  obtain ⟨a, c, ln, xs, S, ce, rfl, hL, ok, hc, im, q⟩ := h
  have h1 := ok.one
  have h8 := ok.most
  have nl : (ln.map V.int).length = ln.length := List.length_map ..
  refine ⟨_, (pss_cons (ps_set (i := 4) sc_lSpot.nd rfl (.inl rfl) (pe_op op_cat (pe_lc (g := gName 3) (own := [("_law_place", 3)]) rfl sc_lSpot.nd (pi_range1 (by rfl) T.b_range (pa_cons (pe_callB call_len_seq (by rfl) T.b_len (by decide +kernel) (pa_cons (pv 0) pa_nil)) pa_nil)) (blkOk_by (own := [("_law_place", 3)]) (N := ["_law_lane", "_law_stand", "_law_cell", "_law_place", "_law_spots", "_law_k", "_law_spot_here"]) (sc := defScope s_lSpot) (by decide +kernel)) (fun _ _ _ _ _ => (pg_name (i := 3) sc_lSpot.nd rfl (.inl rfl))) (fun _ _ _ _ _ => pts_nil) (fun _ _ _ _ _ => (pe_tupF (pa_cons pe_str (pa_cons (pv 3) pa_nil))))) (pe_lc (g := gName 3) (own := [("_law_place", 3)]) rfl sc_lSpot.nd (pi_range1 (by rfl) T.b_range (pa_cons (pe_callB call_len_seq (by rfl) T.b_len (by decide +kernel) (pa_cons (pv 0) pa_nil)) pa_nil)) (blkOk_by (own := [("_law_place", 3)]) (N := ["_law_lane", "_law_stand", "_law_cell", "_law_place", "_law_spots", "_law_k", "_law_spot_here"]) (sc := defScope s_lSpot) (by decide +kernel)) (fun _ _ _ _ _ => (pg_name (i := 3) sc_lSpot.nd rfl (.inl rfl))) (fun _ _ _ _ _ => pts_nil) (fun _ _ _ _ _ => (pe_tupF (pa_cons pe_str (pa_cons (pv 3) pa_nil)))))))
      (pss_cons (ps_if (pt_cmpR op_eq (pe_op op_mod (pe_op op_fdiv (pv 2) pe_int) pe_int) pe_int (nomark _)) (pss_one (ps_ret (pe_tupF (pa_cons pe_str pa_nil)))) pss_nil)
      (pss_cons (ps_for PassesOwn.never rfl (pi_range1 (by rfl) T.b_range (pa_cons (pe_callB call_len_seq (by rfl) T.b_len (by decide +kernel) (pa_cons (pv 4) pa_nil)) pa_nil)) (pg_name (i := 5) sc_lSpot.nd rfl (.inl rfl)) (pss_cons (ps_set (i := 6) sc_lSpot.nd rfl (.inl rfl) (pe_ix (r := rIxL K) ix_list (pv 4) (pe_op op_mod (pe_op op_add (pv 2) (pv 5)) (pe_callB call_len_seq (by rfl) T.b_len (by decide +kernel) (pa_cons (pv 4) pa_nil))) (fun _ _ => rfl)))
      (pss_one (ps_if (PW.pt (pw_or (PW.pt (pw_and (pt_cmpR op_eq (pe_ix (r := rIxT K) ix_tup (pv 6) pe_int (fun _ _ => rfl)) pe_str (nomark _)) (pw_and1 (pt_cmpR (r := rNotInD K) (op_notInD (hu65 hr)) (pv 6) (pv 1) (by rfl))))) (pw_or1 (PW.pt (pw_and (pt_cmpR op_eq (pe_ix (r := rIxT K) ix_tup (pv 6) pe_int (fun _ _ => rfl)) pe_str (nomark _)) (pw_and1 (pt_cmpR op_lt (pe_bm PySem.F.plainAttrs_list PySem.F.slot_list_count PySem.F.type_list_count (r := rCountL K) (mt_countL (hu65 hr)) (pv 1) (pa_cons (pv 6) pa_nil)) (pe_ix (r := rIxL K) ix_list (pv 0) (pe_ix (r := rIxT K) ix_tup (pv 6) pe_int (fun _ _ => rfl)) (fun _ _ => rfl)) (nomark _)))))))) (pss_one (ps_ret (pv 6))) pss_nil))))
      (pss_one (ps_ret (pe_tupF (pa_cons pe_str pa_nil))))))), ?_⟩
  refine ⟨.ref a, rfl, a, _, rfl, .inl hL, _, rfl, by omega, by omega, fun D1 hD1 => ?_⟩
  refine lc_map (walk_range (lo := 0) (n := ((ln.map V.int).length : Int).toNat)) (fun i y H' => ∃ p, y = .ref p ∧ SpotAt H' p (.lane i)) (fun i y H1 H2 t e => by obtain ⟨p, rfl, hp⟩ := e; exact ⟨p, rfl, t _ _ hp⟩) (Nat.lt_of_le_of_lt (by omega : _ ≤ 8) (by decide)) hD1 (fun _ _ => trivial)
    (fun i x H1 H2 k hi s1 y hk => ?_) (fun H1 ys s1 e1 l1 el => ?_)
  · obtain ⟨rfl, rfl⟩ := y
    refine ⟨rfl, .int ((0 : Int) + (i : Int)), rfl, two_size, nT_q fun H3 p s3 tp => hk _ _ s3 ⟨p, rfl, ?_⟩⟩
    rw [show ((0 : Int) + (i : Int)) = (i : Int) by omega] at tp
    exact tp
  refine ⟨.ref a, rfl, a, _, rfl, .inl (s1.seq hL), _, rfl, by omega, by omega, fun D2 hD2 => ?_⟩
  refine lc_map (walk_range (lo := 0) (n := ((ln.map V.int).length : Int).toNat)) (fun i y H' => ∃ p, y = .ref p ∧ SpotAt H' p (.side i)) (fun i y H1 H2 t e => by obtain ⟨p, rfl, hp⟩ := e; exact ⟨p, rfl, t _ _ hp⟩) (Nat.lt_of_le_of_lt (by omega : _ ≤ 8) (by decide)) hD2 (fun _ _ => trivial)
    (fun i x H3 H4 k hi s2 y hk => ?_) (fun H2 zs s2 e2 l2 el2 => ?_)
  · obtain ⟨rfl, rfl⟩ := y
    refine ⟨rfl, .int ((0 : Int) + (i : Int)), rfl, two_size, nT_q fun H5 p s3 tp => hk _ _ s3 ⟨p, rfl, ?_⟩⟩
    rw [show ((0 : Int) + (i : Int)) = (i : Int) by omega] at tp
    exact tp
  have s12 := s1.trans s2
  have l1' : ys.length = ln.length := by omega
  have l2' : zs.length = ln.length := by omega
  refine ⟨D1, D2, ys, zs, rfl, rfl, s2 _ _ e1, e2, Nat.le_of_lt (Nat.lt_of_le_of_lt (by omega : _ ≤ 16) (by decide)), fun D3 hD3 => ?_⟩
  have s3 := s12.trans (same_new (o := .lst (ys ++ zs)) hD3)
  have i3 : ImAll (upd H2 D3 (.lst (ys ++ zs))) (ys ++ zs) ((spotsOf ln.length).map dS) := by
    unfold spotsOf
    rw [List.map_append, List.map_map, List.map_map]
    have t2 := Ti.of s2
    refine ImAll.mono (Ti.new hD3) (ImAll.append (im_of l1' fun i y hy => ?_) (im_of l2' fun i y hy => ?_))
    · obtain ⟨p, rfl, hp⟩ := el i y hy
      exact (SpotAt.im (t2 _ _ hp))
    · obtain ⟨p, rfl, hp⟩ := el2 i y hy
      exact hp.im
  generalize hH3 : upd H2 D3 (.lst (ys ++ zs)) = H3 at s3 i3
  have eD3 : H3 D3 = some (.lst (ys ++ zs)) := by rw [← hH3]; exact upd_same
  -- now and then out
  refine ⟨.int ce, rfl, _, _, rfl, rfl, ⟨by decide, by decide⟩, _, _, rfl, rfl, (by show (0 : Int) < 9; decide), rfl, _, rfl, ite2 (fun _ => ?_) (fun _ => ?_)⟩
  · exact ⟨one_size, nT_q fun H4 p s4 tp => q H4 p .out (s3.trans s4) tp trivial (.inl rfl)⟩
  have lyz : (ys ++ zs).length = 2 * ln.length := by rw [List.length_append]; omega
  have lso : (spotsOf ln.length).length = 2 * ln.length := by unfold spotsOf; simp; omega
  refine ⟨.ref D3, rfl, D3, _, rfl, .inl (.inl (.inl eD3)), _, rfl, by omega, by omega, ?_⟩
  refine for_it (walk_range (lo := 0) (n := ((ys ++ zs).length : Int).toNat)) (fun i σ H4 => H4 = H3 ∧ ∃ y5 y6, σ = [some (.ref a), some (.ref c), some (.int ce), none, some (.ref D3), y5, y6]) ⟨rfl, none, none, rfl⟩ (fun _ _ _ _ _ => trivial) (fun i x σ H4 H5 hi p y => ?_) (fun σ H4 p => ?_)
  · obtain ⟨rfl, y5, y6, rfl⟩ := p
    obtain ⟨rfl, rfl⟩ := y
    have hpos : (0 : Int) < ((ys ++ zs).length : Int) := by omega
    have m0 := Int.emod_nonneg (ce + (0 + (i : Int))) (show ((ys ++ zs).length : Int) ≠ 0 by omega)
    have m1 := Int.emod_lt_of_pos (ce + (0 + (i : Int))) hpos
    obtain ⟨j, hj⟩ : ∃ j : Nat, (ce + (0 + (i : Int))) % ((ys ++ zs).length : Int) = j := ⟨_, (Int.toNat_of_nonneg m0).symm⟩
    have hjl : j < (spotsOf ln.length).length := by omega
    have esp : (spotsOf ln.length)[j]? = some ((spotsOf ln.length)[j]) := List.getElem?_eq_getElem hjl
    generalize hsp : (spotsOf ln.length)[j] = sp at esp
    obtain ⟨okp, np⟩ := spotsOf_ok (mem_of_some esp)
    obtain ⟨p, ep, hp⟩ := stand_get i3 esp
    refine ⟨.ref D3, rfl, .int ce, rfl, .int (0 + (i : Int)), rfl, _, _, rfl, rfl, .ref D3, rfl, D3, _, rfl, .inl (.inl (.inl eD3)), _, _, rfl, rfl, hpos, D3, ys ++ zs, _, .ref p, rfl, rfl, .inl (.inl eD3), (by rw [hj]; exact atI_nat ep), ?_⟩
    have hcx : H5 c = some (.lst xs) := s3 _ _ hc
    have imx := im.mono (Ti.of s3)
    cases sp with
    | out => exact absurd rfl np
    | lane m =>
      refine ⟨.ref p, rfl, p, _, 0, _, rfl, rfl, hp.sq, at0, rfl, _, rfl, iteT' (decide_eq_true rfl) ?_⟩
      refine ⟨.ref p, rfl, .ref c, rfl, dS (.lane m), S.map dS, (SpotAt.im hp).dp, .lst (.inl (.inl hcx)) imx.dp, shaped_spot _, shaped_list S, _, rfl, ?_⟩
      rw [any_spot]
      by_cases hin : Spot.lane m ∈ S
      · rw [decide_eq_true hin]
        refine iteF ⟨.ref p, rfl, p, _, 0, _, rfl, rfl, hp.sq, at0, rfl, _, rfl, iteF' (decide_eq_false (by decide)) (iteF ⟨rfl, _, _, rfl⟩)⟩
      · rw [decide_eq_false hin]
        refine iteT (iteT ⟨.ref p, rfl, q H5 p (.lane m) s3 hp okp (.inr (decide_eq_true ?_))⟩)
        have z : S.count (Spot.lane m) = 0 := List.count_eq_zero.mpr hin
        show ((S.count (Spot.lane m) : Nat) : Int) < 1
        omega
    | side m =>
      refine ⟨.ref p, rfl, p, _, 0, _, rfl, rfl, hp.sq, at0, rfl, _, rfl, iteF' (decide_eq_false (by decide)) (iteF ?_)⟩
      refine ⟨.ref p, rfl, p, _, 0, _, rfl, rfl, hp.sq, at0, rfl, _, rfl, iteT' (decide_eq_true rfl) ?_⟩
      refine ⟨.ref c, rfl, .inl ⟨rfl, _, .inl (.inl hcx)⟩, .ref p, rfl, .ref p, dS (.side m), S.map dS, rfl, .lst (.inl (.inl hcx)) imx.dp, (SpotAt.im hp).dp, shaped_list S, shaped_spot _, ?_⟩
      refine ⟨.ref a, rfl, .ref p, rfl, p, _, 1, _, rfl, rfl, hp.sq, at1, a, _, (m : Int), _, rfl, rfl, s3.seq hL, lane_at okp, _, _, rfl, rfl, _, rfl, ?_⟩
      rw [countP_spot]
      refine ite2 (fun e => ?_) (fun e => ?_)
      · exact ⟨.ref p, rfl, q H5 p (.side m) s3 hp okp (.inr e)⟩
      · exact ⟨rfl, _, _, rfl⟩
  · obtain ⟨rfl, y5, y6, rfl⟩ := p
    exact ⟨one_size, nT_q fun H4 p s4 tp => q H4 p .out (s3.trans s4) tp trivial (.inl rfl)⟩
end
end Slx

set_option Elab.async false
set_option linter.all false
set_option maxRecDepth 100000
set_option maxHeartbeats 4000000
namespace Slx
open PySem PySem.Spec PyProof.Rows L2 Sl
section
variable {P : Program} {w : World} {K : PySem.W.Frag} {mg : Str → Option Value} {base : Heap}
theorem arg2 {x : V} {i j : Int} (h : i = j) : ([x, .int i] : List V) = [x, .int j] := by rw [h]
theorem size8 : 8 ≤ sizeLine := by decide
/-- a spot with room comes to the stand -/
theorem room_append {ln : List Int} {S : Stand} {sp : Spot} (hl : S.length < 6) (h : ∀ s ∈ S, (S.count s : Int) ≤ mostAt ln s) (hs : sp = .out ∨ hasRoom ln S sp = true) : ∀ s ∈ S ++ [sp], ((S ++ [sp]).count s : Int) ≤ mostAt ln s := fun s hm => by
  have hc : ((S ++ [sp]).count s : Nat) = S.count s + (if sp = s then 1 else 0) := by
    rw [List.count_append]
    congr 1
    by_cases e : sp = s
    · subst e; simp
    · have e2 : (sp == s) = false := beq_eq_false_iff_ne.mpr e
      simp [List.count_cons, e, e2]
  rw [hc]
  by_cases e : sp = s
  · subst e
    rw [if_pos rfl]
    rcases hs with rfl | hs
    · have := List.count_le_length (a := Spot.out) (l := S)
      show _ ≤ (6 : Int)
      omega
    · have h2 : (S.count sp : Int) < mostAt ln sp := of_decide_eq_true hs
      omega
  · rw [if_neg e]
    rcases List.mem_append.mp hm with hm | hm
    · exact h s hm
    · exact absurd (List.mem_singleton.mp hm).symm e
/-- short lanes, or few trains -/
def Small (ln : List Int) (wy : List Bool) : Prop := (ln.length ≤ 4 ∧ wy.length ≤ 3) ∨ wy.length ≤ 2 ∨ ln.length ≤ 3
def spBuilt (K : PySem.W.Frag) : Sp := fun vs H Q _ => ∃ a, ∃ ns : List Int, vs = [.ref a] ∧ SqL K H a (ns.map V.int) ∧
  ∀ H' p a1 b1 c1 ln wy S, Same H H' → TupAt H' p [.ref a1, .ref b1, .ref c1] → H a1 = none → H b1 = none → H' a1 = some (.lst (ln.map V.int)) → H' b1 = some (.lst (wy.map fun b => V.str (wS b))) → a1 ≠ b1 → StandAt H' c1 S → OkStand ln wy S → Small ln wy → Q (.ref p) H'
theorem ok_built (T : Txt K mg) : DefOk P w K mg base 3 "_law_built" ["_law_script"] (spBuilt K) := by
  have D_lCellAt : DefOk P w K mg base 1 "_law_cell_at" ["_law_script", "_law_k"] (spCellAt K) := ok_cellAt T
  have D_lMixed : DefOk P w K mg base 2 "_law_mixed" ["_law_script", "_law_k"] (spMixed K) := ok_mixed T
  have D_lSpot : DefOk P w K mg base 1 "_law_spot" ["_law_lane", "_law_stand", "_law_cell"] (spLSpot K) := ok_lSpot T
  refine T.f_lBuilt.ok sc_lBuilt (fun vs H Q E h => by obtain ⟨a, ns, rfl, _⟩ := h; rfl) (fun f cdv A outer s H vs Q E hr h => ?_)
  obtain ⟨a, ns, rfl, hL, q⟩ := h
  refine ⟨_, (pss_cons (ps_set (i := 1) sc_lBuilt.nd rfl (.inl rfl) (pe_def D_lCellAt (hr.mono (by omega)) (pa_cons (pv 0) (pa_cons pe_int pa_nil))))
      (pss_cons (ps_set (i := 2) sc_lBuilt.nd rfl (.inl rfl) (pe_def D_lCellAt (hr.mono (by omega)) (pa_cons (pv 0) (pa_cons pe_int pa_nil))))
      (pss_cons (ps_set (i := 3) sc_lBuilt.nd rfl (.inl rfl) (pe_op op_add pe_int (pe_op op_mod (pv 1) pe_int)))
      (pss_cons (ps_set (i := 4) sc_lBuilt.nd rfl (.inl rfl) (pe_op op_add pe_int (pe_op op_mod (pv 2) pe_int)))
      (C8.pss_cut (ps_if (pt_cmpR op_eq (pe_op op_mod (pe_op op_fdiv (pv 1) pe_int) pe_int) pe_int (nomark _)) (pss_cons (ps_set (i := 3) sc_lBuilt.nd rfl (.inl rfl) (pe_op op_add pe_int (pe_op op_mod (pe_op op_fdiv (pv 1) pe_int) pe_int)))
      (pss_one (ps_set (i := 4) sc_lBuilt.nd rfl (.inl rfl) (pe_op op_add pe_int (pe_op op_mod (pv 2) pe_int))))) pss_nil)
      (C8.pss_cut (ps_if (pt_cmpR op_eq (pe_op op_mod (pe_op op_fdiv (pv 1) pe_int) pe_int) pe_int (nomark _)) (pss_cons (ps_set (i := 3) sc_lBuilt.nd rfl (.inl rfl) (pe_op op_add pe_int (pe_op op_mod (pe_op op_fdiv (pv 1) pe_int) pe_int)))
      (pss_one (ps_set (i := 4) sc_lBuilt.nd rfl (.inl rfl) (pe_op op_add pe_int (pe_op op_mod (pv 2) pe_int))))) pss_nil)
      (C8.pss_cut (ps_set (i := 5) sc_lBuilt.nd rfl (.inr rfl) (pe_ix (r := rIxL K) ix_list (pe_lst (pa_cons (pe_lst (pa_cons pe_int (pa_cons pe_int (pa_cons pe_int (pa_cons pe_int (pa_cons pe_int (pa_cons pe_int (pa_cons pe_int (pa_cons pe_int pa_nil))))))))) (pa_cons (pe_lst (pa_cons pe_int (pa_cons pe_int (pa_cons pe_int (pa_cons pe_int (pa_cons pe_int (pa_cons pe_int (pa_cons pe_int (pa_cons pe_int pa_nil))))))))) pa_nil))) (pe_callTy call_int1 (by rfl) T.b_int (by decide +kernel) (pa_cons (pe_cmpR op_gt (pe_op op_mod (pe_op op_fdiv (pv 2) pe_int) pe_int) pe_int (nomark _)) pa_nil)) (fun _ _ => rfl)))
      (pss_cons (ps_setLc (g := gName 6) (own := [("_law_k", 6)]) (i := 7) rfl sc_lBuilt.nd rfl rfl (sw_true rfl rfl rfl (by decide +kernel)) (pi_range1 (by rfl) T.b_range (pa_cons (pv 3) pa_nil)) (blkOk_by (own := [("_law_k", 6)]) (N := ["_law_script", "_law_first", "_law_second", "_law_many", "_law_trains", "_law_rooms", "_law_k", "_law_lane", "_law_ways", "_law_stand", "_law_cell"]) (sc := defScope s_lBuilt) (by decide +kernel)) (fun _ _ _ _ _ => (pg_name (i := 6) sc_lBuilt.nd rfl (.inl rfl))) (fun _ _ _ _ _ => pts_nil) (fun _ _ _ _ _ => (pe_ix (r := rIxL K) ix_list (pv 5) (pe_op op_mod (pe_def D_lMixed (hr.mono (by omega)) (pa_cons (pv 0) (pa_cons (pe_op op_add pe_int (pv 6)) pa_nil))) pe_int) (fun _ _ => rfl))))
      (pss_cons (ps_set (i := 8) sc_lBuilt.nd rfl (.inl rfl) (pe_lst pa_nil))
      (pss_cons (ps_set (i := 9) sc_lBuilt.nd rfl (.inl rfl) (pe_lst pa_nil))
      (pss_cons (ps_for PassesOwn.never rfl (pi_range1 (by rfl) T.b_range (pa_cons (pv 4) pa_nil)) (pg_name (i := 6) sc_lBuilt.nd rfl (.inl rfl)) (pss_cons (ps_set (i := 10) sc_lBuilt.nd rfl (.inl rfl) (pe_def D_lMixed (hr.mono (by omega)) (pa_cons (pv 0) (pa_cons (pe_op op_add pe_int (pv 6)) pa_nil))))
      (pss_cons (ps_expr (pe_bm PySem.F.plainAttrs_list PySem.F.slot_list_append PySem.F.type_list_append mt_append (pv 8) (pa_cons (pe_ix (r := rIxL K) ix_list (pe_lst (pa_cons pe_str (pa_cons pe_str pa_nil))) (pe_op op_mod (pv 10) pe_int) (fun _ _ => rfl)) pa_nil)))
      (pss_one (ps_expr (pe_bm PySem.F.plainAttrs_list PySem.F.slot_list_append PySem.F.type_list_append mt_append (pv 9) (pa_cons (pe_def D_lSpot (hr.mono (by omega)) (pa_cons (pv 7) (pa_cons (pv 9) (pa_cons (pe_op op_fdiv (pv 10) pe_int) pa_nil)))) pa_nil)))))))
      (pss_one (ps_ret (pe_tupF (pa_cons (pv 7) (pa_cons (pv 8) (pa_cons (pe_callTy call_tuple_ofF (by rfl) T.b_tuple (by decide +kernel) (pa_cons (pv 9) pa_nil)) pa_nil))))))))))))))))), ?_⟩
  refine ⟨.ref a, rfl, a, ns, 0, rfl, hL, ?_⟩
  refine ⟨.ref a, rfl, a, ns, 1, rfl, hL, ?_⟩
  generalize cell ns 0 = fi
  generalize cell ns 1 = se
  have r4 := Int.emod_nonneg fi (show (4 : Int) ≠ 0 by decide)
  have r4' := Int.emod_lt_of_pos fi (show (0 : Int) < 4 by decide)
  have r3 := Int.emod_nonneg se (show (3 : Int) ≠ 0 by decide)
  have r3' := Int.emod_lt_of_pos se (show (0 : Int) < 3 by decide)
  have p4 : (0 : Int) < 4 := by decide
  have p3 : (0 : Int) < 3 := by decide
  have p8 : (0 : Int) < 8 := by decide
  have p2 : (0 : Int) < 2 := by decide
  refine ⟨.int fi, rfl, _, _, rfl, rfl, p4, _, _, rfl, rfl, ?_⟩
  refine ⟨.int se, rfl, _, _, rfl, rfl, p3, _, _, rfl, rfl, ?_⟩
  -- long lanes
  let Mid : L2.St → Hp → Prop := fun σ' H' => H' = H ∧ ∃ ma tr : Int, (1 ≤ ma ∧ ma ≤ 8 ∧ 1 ≤ tr ∧ tr ≤ 6 ∧ (ma ≤ 4 ∧ tr ≤ 3 ∨ tr ≤ 2 ∨ ma ≤ 3)) ∧ σ' = [some (.ref a), some (.int fi), some (.int se), some (.int ma), some (.int tr), none, none, none, none, none, none]
  refine ⟨Mid, ?_, fun σ1 H1 m1 => ⟨Mid, ?_, fun σ2 H2 m2 => ⟨fun σ' H' => Same H H' ∧ ∃ ma tr : Int, ∃ r : Addr, ∃ rm : List Int, (1 ≤ ma ∧ ma ≤ 8 ∧ 1 ≤ tr ∧ tr ≤ 6 ∧ (ma ≤ 4 ∧ tr ≤ 3 ∨ tr ≤ 2 ∨ ma ≤ 3)) ∧ H' r = some (.lst (rm.map V.int)) ∧ rm.length = 8 ∧ (∀ x ∈ rm, 0 ≤ x ∧ x ≤ 4) ∧
    σ' = [some (.ref a), some (.int fi), some (.int se), some (.int ma), some (.int tr), some (.ref r), none, none, none, none, none], ?_, fun σ3 H3 m3 => ?_⟩⟩⟩
  · refine ⟨.int fi, rfl, _, _, rfl, rfl, ⟨by decide, by decide⟩, _, _, rfl, rfl, p8, rfl, _, rfl, ite2 (fun _ => ?_) (fun _ => ?_)⟩
    · have a1 := Int.emod_nonneg (fi / 32) (show (4 : Int) ≠ 0 by decide)
      have a2 := Int.emod_lt_of_pos (fi / 32) (show (0 : Int) < 4 by decide)
      have b1 := Int.emod_nonneg se (show (2 : Int) ≠ 0 by decide)
      have b2 := Int.emod_lt_of_pos se (show (0 : Int) < 2 by decide)
      refine ⟨.int fi, rfl, _, _, rfl, rfl, ⟨by decide, by decide⟩, _, _, rfl, rfl, p4, _, _, rfl, rfl, .int se, rfl, _, _, rfl, rfl, p2, _, _, rfl, rfl, ?_⟩
      exact ⟨rfl, _, _, ⟨by omega, by omega, by omega, by omega, by omega⟩, rfl⟩
    · exact ⟨rfl, _, _, ⟨by omega, by omega, by omega, by omega, by omega⟩, rfl⟩
  · obtain ⟨rfl, ma, tr, hb, rfl⟩ := m1
    refine ⟨.int fi, rfl, _, _, rfl, rfl, ⟨by decide, by decide⟩, _, _, rfl, rfl, p8, rfl, _, rfl, ite2 (fun _ => ?_) (fun _ => ?_)⟩
    · have a1 := Int.emod_nonneg (fi / 32) (show (3 : Int) ≠ 0 by decide)
      have a2 := Int.emod_lt_of_pos (fi / 32) (show (0 : Int) < 3 by decide)
      refine ⟨.int fi, rfl, _, _, rfl, rfl, ⟨by decide, by decide⟩, _, _, rfl, rfl, p3, _, _, rfl, rfl, .int se, rfl, _, _, rfl, rfl, p3, _, _, rfl, rfl, ?_⟩
      exact ⟨rfl, _, _, ⟨by omega, by omega, by omega, by omega, by omega⟩, rfl⟩
    · exact ⟨rfl, _, _, hb, rfl⟩
  · obtain ⟨rfl, ma, tr, hb, rfl⟩ := m2
    refine ⟨size8, fun r1 h1 => ⟨size8, fun r2 h2 => ⟨two_size, fun r3 h3 => ?_⟩⟩⟩
    refine ⟨.int se, rfl, _, _, rfl, rfl, ⟨by decide, by decide⟩, _, _, rfl, rfl, p3, _, _, rfl, rfl, .inr ⟨_, rfl, ?_⟩⟩
    have s1 := same_new (o := .lst [.int 0, .int 1, .int 0, .int 2, .int 1, .int 0, .int 3, .int 4]) h1
    have s2 := same_new (o := .lst [.int 0, .int 0, .int 0, .int 0, .int 1, .int 0, .int 0, .int 0]) h2
    have s3 := same_new (o := .lst [.ref r1, .ref r2]) h3
    by_cases hd : (0 : Int) < se / 3 % 3
    · rw [decide_eq_true hd]
      exact ⟨r3, _, 1, .ref r2, rfl, rfl, .inl (.inl upd_same), at1, (s1.trans s2).trans s3, ma, tr, r2, [0, 0, 0, 0, 1, 0, 0, 0], hb, s3 _ _ upd_same, rfl, by decide, rfl⟩
    · rw [decide_eq_false hd]
      exact ⟨r3, _, 0, .ref r1, rfl, rfl, .inl (.inl upd_same), at0, (s1.trans s2).trans s3, ma, tr, r1, [0, 1, 0, 2, 1, 0, 3, 4], hb, s3 _ _ (s2 _ _ upd_same), rfl, by decide, rfl⟩
  -- the lane
  obtain ⟨s3, ma, tr, r, rm, ⟨hb1, hb2, hb3, hb4, hb5⟩, er, lr, hrm, rfl⟩ := m3
  refine ⟨.int ma, rfl, ma, rfl, by omega, by omega, fun D hD => ?_⟩
  have hD0 : H D = none := s3.free hD
  refine lc_map (walk_range (lo := 0) (n := ma.toNat)) (fun i y _ => ∃ n : Int, y = .int n ∧ 0 ≤ n ∧ n ≤ 4) (fun _ _ _ _ _ e => e) (Nat.lt_of_le_of_lt (by omega : _ ≤ 8) (by decide)) hD (fun _ _ => trivial)
    (fun i x H4 H5 k hi s4 y hk => ?_) (fun H4 ys s4 e4 l4 el => ?_)
  · obtain ⟨rfl, rfl⟩ := y
    refine ⟨rfl, .ref r, rfl, .ref a, rfl, .int (0 + (i : Int)), rfl, _, _, rfl, rfl, ?_⟩
    refine ⟨a, ns, 2 + i, arg2 (by omega), (s3.trans s4).seq hL, by omega, fun m => ⟨_, _, rfl, rfl, p8, ?_⟩⟩
    have m0 := Int.emod_nonneg m (show (8 : Int) ≠ 0 by decide)
    have m1 := Int.emod_lt_of_pos m (show (0 : Int) < 8 by decide)
    obtain ⟨j, hj⟩ : ∃ j : Nat, m % 8 = j := ⟨_, (Int.toNat_of_nonneg m0).symm⟩
    have hjl : j < rm.length := by omega
    refine ⟨r, _, _, _, rfl, rfl, .inl (.inl (s4 _ _ er)), (by rw [hj]; exact lane_at hjl), hk _ _ (Same.refl _) ⟨_, rfl, ?_⟩⟩
    have e := getD_lt (d := 0) hjl
    exact hrm _ (mem_of_some e)
  obtain ⟨ln, rfl, hln⟩ : ∃ ln : List Int, ys = ln.map V.int ∧ ∀ x ∈ ln, 0 ≤ x ∧ x ≤ 4 := by
    refine ⟨ys.map fun v => match v with | .int n => n | _ => 0, ?_, ?_⟩
    · rw [List.map_map]
      refine List.ext_getElem? fun i => ?_
      rw [List.getElem?_map]
      cases hy : ys[i]? with
      | none => rfl
      | some y =>
        obtain ⟨n, rfl, _⟩ := el i y hy
        rfl
    · intro x hx
      obtain ⟨y, hy, rfl⟩ := List.mem_map.mp hx
      obtain ⟨i, hi, rfl⟩ := List.getElem_of_mem hy
      obtain ⟨n, hn, h0, h4⟩ := el i _ (List.getElem?_eq_getElem hi)
      rw [hn]
      exact ⟨h0, h4⟩
  have lln : ln.length = ma.toNat := by rw [← l4, List.length_map]
  have okl : OkLane ln := ⟨by omega, by omega, hln⟩
  -- ways, stand
  refine ⟨Nat.zero_le _, fun Wy hWy => ⟨Nat.zero_le _, fun St hSt => ?_⟩⟩
  have s24 := s3.trans s4
  have nWD : Wy ≠ D := fun e => by rw [e] at hWy; rw [e4] at hWy; cases hWy
  have eD5 : (upd (upd H4 Wy (.lst [])) St (.lst [])) D = some (.lst (ln.map V.int)) := same_new hSt _ _ (same_new hWy _ _ e4)
  have eW5 : (upd (upd H4 Wy (.lst [])) St (.lst [])) Wy = some (.lst []) := same_new hSt _ _ upd_same
  have nSD : St ≠ D := fun e => by have z := same_new (o := .lst []) hWy _ _ e4; rw [← e, hSt] at z; cases z
  have nSW : St ≠ Wy := fun e => by rw [e, upd_same] at hSt; cases hSt
  have s5 := (s24.trans (same_new (o := .lst []) hWy)).trans (same_new (o := .lst []) hSt)
  have hW0 : H Wy = none := s24.free hWy
  have hS0 : H St = none := (s24.trans (same_new (o := .lst []) hWy)).free hSt
  refine ⟨.int tr, rfl, tr, rfl, by omega, by omega, ?_⟩
  refine for_it (walk_range (lo := 0) (n := tr.toNat)) (fun i σ H6 => Same H H6 ∧ H6 D = some (.lst (ln.map V.int)) ∧ (∃ wy S xs, H6 Wy = some (.lst (wy.map fun b => V.str (wS b))) ∧ wy.length = i ∧ H6 St = some (.lst xs) ∧ ImAll H6 xs (S.map dS) ∧ S.length = i ∧ (∀ s ∈ S, okSpot ln s) ∧ (∀ s ∈ S, (S.count s : Int) ≤ mostAt ln s)) ∧
      ∃ y6 y10, σ = [some (.ref a), some (.int fi), some (.int se), some (.int ma), some (.int tr), some (.ref r), y6, some (.ref D), some (.ref Wy), some (.ref St), y10])
    ⟨s5, eD5, ⟨[], [], [], eW5, rfl, upd_same, .nil, rfl, by simp, by simp⟩, none, none, rfl⟩ (fun _ _ _ _ _ => trivial) (fun i x σ H6 H7 hi p y => ?_) (fun σ H6 p => ?_)
  · obtain ⟨s6, eD, ⟨wy, S, xs, eW, lw, eS, im, lS, okS, room⟩, y6, y10, rfl⟩ := p
    obtain ⟨rfl, rfl⟩ := y
    refine ⟨.ref a, rfl, .int (0 + (i : Int)), rfl, _, _, rfl, rfl, ?_⟩
    refine ⟨a, ns, 10 + i, arg2 (by omega), s6.seq hL, by omega, fun m => ?_⟩
    have m0 := Int.emod_nonneg m (show (2 : Int) ≠ 0 by decide)
    have m1 := Int.emod_lt_of_pos m (show (0 : Int) < 2 by decide)
    refine ⟨.ref Wy, rfl, .inl ⟨rfl, _, .inl (.inl eW)⟩, two_size, fun t ht => ⟨.int m, rfl, _, _, rfl, rfl, p2, ?_⟩⟩
    obtain ⟨b, hbw⟩ : ∃ b : Bool, atI [V.str "right", V.str "left"] (m % 2) = some (.str (wS b)) := by
      rcases (show m % 2 = 0 ∨ m % 2 = 1 by omega) with e | e
      · exact ⟨true, by rw [e]; exact at0⟩
      · exact ⟨false, by rw [e]; exact at1⟩
    refine ⟨t, _, _, _, rfl, rfl, .inl (.inl upd_same), hbw, ?_⟩
    have s7 := s6.trans (same_new (o := .lst [.str "right", .str "left"]) ht)
    have eW7 := same_new (o := .lst [.str "right", .str "left"]) ht _ _ eW
    have eD7 := same_new (o := .lst [.str "right", .str "left"]) ht _ _ eD
    have eS7 := same_new (o := .lst [.str "right", .str "left"]) ht _ _ eS
    have im7 := im.mono (Ti.new (o := .lst [.str "right", .str "left"]) ht)
    generalize upd H7 t (.lst [.str "right", .str "left"]) = G7 at s7 eW7 eD7 eS7 im7
    refine ⟨Wy, _, _, rfl, rfl, eW7, by rw [List.length_map, lw]; exact Nat.lt_of_le_of_lt (by omega : _ ≤ 8) (by decide), ?_⟩
    have s8 : Same H (upd G7 Wy (.lst ((wy.map fun b => V.str (wS b)) ++ [.str (wS b)]))) := same_mut s7 hW0
    have eW8 : (upd G7 Wy (.lst ((wy.map fun b => V.str (wS b)) ++ [.str (wS b)]))) Wy = some (.lst ((wy ++ [b]).map fun b => V.str (wS b))) := by rw [upd_same, List.map_append]; rfl
    have eD8 : (upd G7 Wy (.lst ((wy.map fun b => V.str (wS b)) ++ [.str (wS b)]))) D = some (.lst (ln.map V.int)) := by rw [upd_ne (Ne.symm nWD)]; exact eD7
    have eS8 : (upd G7 Wy (.lst ((wy.map fun b => V.str (wS b)) ++ [.str (wS b)]))) St = some (.lst xs) := by rw [upd_ne nSW]; exact eS7
    have im8 := im7.mono (Ti.lst (o := .lst ((wy.map fun b => V.str (wS b)) ++ [.str (wS b)])) eW7)
    generalize upd G7 Wy (.lst ((wy.map fun b => V.str (wS b)) ++ [.str (wS b)])) = G8 at s8 eW8 eD8 eS8 im8
    refine ⟨.ref St, rfl, .inl ⟨rfl, _, .inl (.inl eS8)⟩, .ref D, rfl, .ref St, rfl, .int m, rfl, _, _, rfl, rfl, ⟨by decide, by decide⟩, ?_⟩
    refine ⟨D, St, ln, xs, S, _, rfl, .inl (.inl eD8), okl, eS8, im8, fun G9 p sp s9 hp oksp hsp => ?_⟩
    refine ⟨St, xs, .ref p, rfl, rfl, s9 _ _ eS8, ?_, ?_⟩
    · have := im8.length
      rw [List.length_map] at this
      exact Nat.lt_of_le_of_lt (by omega : _ ≤ 8) (by decide)
    · refine ⟨same_mut (s8.trans s9) hS0, by rw [upd_ne (Ne.symm nSD)]; exact s9 _ _ eD8, ⟨wy ++ [b], S ++ [sp], xs ++ [.ref p], by rw [upd_ne (Ne.symm nSW)]; exact s9 _ _ eW8, by simp [lw], upd_same, ?_, by simp [lS], ?_, room_append (by omega) room hsp⟩, _, _, rfl⟩
      · rw [List.map_append]
        have tl := Ti.lst (o := .lst (xs ++ [.ref p])) (s9 _ _ eS8)
        exact ImAll.append (im8.mono ((Ti.of s9).trans tl)) (.cons (SpotAt.im (tl _ _ hp)) .nil)
      · intro s hm
        rcases List.mem_append.mp hm with hm | hm
        · exact okS s hm
        · rw [List.mem_singleton.mp hm]; exact oksp
  · obtain ⟨s6, eD, ⟨wy, S, xs, eW, lw, eS, im, lS, okS, room⟩, y6, y10, rfl⟩ := p
    refine ⟨.ref D, rfl, .ref Wy, rfl, .ref St, rfl, St, xs, rfl, .inl (.inl eS), nT_q fun G7 c1 s7 t7 => ⟨by show 3 ≤ sizeLine; decide, nT_q fun G8 p s8 t8 => ?_⟩⟩
    have s67 := s7.trans s8
    refine q G8 p D Wy c1 ln wy S (s6.trans s67) t8 hD0 hW0 (s67 _ _ eD) (s67 _ _ eW) (Ne.symm nWD) ⟨xs, Ti.of s8 _ _ t7, im.mono (Ti.of s67)⟩ ⟨okl, by omega, by omega, by omega, okS, room⟩ (by unfold Small; omega)
end
end Slx

set_option Elab.async false
set_option linter.all false
set_option maxRecDepth 100000
set_option maxHeartbeats 4000000
namespace Slx
open PySem PySem.Spec PyProof.Rows L2 Sl
theorem lane_ahead {ln : List Int} {r : Bool} {m : Nat} (hm : m < ln.length) : (∃ g : Nat, spotAhead ln r m = .lane g ∧ (m : Int) + (if r = true then 1 else -1) = g ∧ g < ln.length) ∨ (spotAhead ln r m = .out ∧ ¬ (0 ≤ (m : Int) + (if r = true then 1 else -1) ∧ (m : Int) + (if r = true then 1 else -1) < ln.length)) := by
  unfold spotAhead
  cases r with
  | true =>
    simp only [if_true]
    by_cases h : m + 1 < ln.length
    · rw [if_pos h]; exact .inl ⟨m + 1, rfl, by omega, h⟩
    · rw [if_neg h]; exact .inr ⟨rfl, by omega⟩
  | false =>
    cases m with
    | zero => exact .inr ⟨rfl, by simp⟩
    | succ q =>
      have h : q < ln.length := by omega
      refine .inl ⟨q, ?_, by simp; omega, h⟩
      show (if q < ln.length then Spot.lane q else Spot.out) = _
      rw [if_pos h]
theorem out_room {ln : List Int} {wy : List Bool} {S : Stand} (o : OkStand ln wy S) {k : Nat} {x : Spot} (hx : S[k]? = some x) (hn : x ≠ .out) : hasRoom ln S .out = true := by
  have h1 : S.count .out < S.length := by
    rcases Nat.lt_or_ge (S.count .out) S.length with h | h
    · exact h
    · have e : S.count .out = S.length := Nat.le_antisymm List.count_le_length h
      exact absurd (List.count_eq_length.mp e x (mem_of_some hx)).symm hn
  have h2 := o.len
  have h3 := o.most
  refine decide_eq_true ?_
  show (S.count Spot.out : Int) < 6
  omega
theorem lane_room {ln : List Int} {S : Stand} {g : Nat} : hasRoom ln S (.lane g) = decide (Spot.lane g ∉ S) := by
  unfold hasRoom
  by_cases h : Spot.lane g ∈ S
  · have : 0 < S.count (Spot.lane g) := List.count_pos_iff.mpr h
    rw [decide_eq_false (show ¬ ((S.count (Spot.lane g) : Int) < mostAt ln (.lane g)) by show ¬ ((_ : Int) < 1); omega), decide_eq_false (by simpa using h)]
  · rw [decide_eq_true (show (S.count (Spot.lane g) : Int) < mostAt ln (.lane g) by rw [List.count_eq_zero.mpr h]; show (0 : Int) < 1; decide), decide_eq_true h]
/-- a word with the spot it leads to; a move with the stand behind it -/
def dWS (c : Wd × Spot) : PyData := .tuple [.str (dW c.1), dS c.2]
def dSt (S : Stand) : PyData := .tuple (S.map dS)
def dPr (S : Stand) (c : Mv × Spot) : PyData := .tuple [dM c.1, dSt (S.set c.1.2 c.2)]
section
variable {P : Program} {w : World} {K : PySem.W.Frag} {mg : Str → Option Value} {base : Heap}
def spLOn (K : PySem.W.Frag) : Sp := fun vs H Q _ => ∃ a ln r k, vs = [.ref a, .str (wS r), .int ((k : Nat) : Int)] ∧ LaneAt K H a ln ∧ k < ln.length ∧ ∀ H' p, Same H H' → SpotAt H' p (spotAhead ln r k) → Q (.ref p) H'
theorem ok_lOn (T : Txt K mg) : DefOk P w K mg base 1 "_law_on" ["_law_lane", "_law_way", "_law_place"] (spLOn K) := by
  refine T.f_lOn.ok sc_lOn (fun vs H Q E h => by obtain ⟨a, ln, r, k, rfl, _⟩ := h; rfl) (fun f cdv A outer s H vs Q E hr h => ?_)
  obtain ⟨a, ln, r, k, rfl, hL, hk, q⟩ := h
  refine ⟨_, (pss_cons (ps_set (i := 3) sc_lOn.nd rfl (.inl rfl) (pe_op op_add (pv 2) (pe_ix (r := rIxL K) ix_list (pe_lst (pa_cons (pe_un un_neg pe_int) (pa_cons pe_int pa_nil))) (pe_callTy call_int1 (by rfl) T.b_int (by decide +kernel) (pa_cons (pe_cmpR op_eq (pv 1) pe_str (nomark _)) pa_nil)) (fun _ _ => rfl))))
      (pss_cons (ps_if (pt_cmpR op_in_rng (pv 3) (pe_callTy cr_rng1 (by rfl) T.b_range (by decide +kernel) (pa_cons (pe_callB call_len_seq (by rfl) T.b_len (by decide +kernel) (pa_cons (pv 0) pa_nil)) pa_nil)) (by rfl)) (pss_one (ps_ret (pe_tupF (pa_cons pe_str (pa_cons (pv 3) pa_nil))))) pss_nil)
      (pss_one (ps_ret (pe_tupF (pa_cons pe_str pa_nil)))))), ?_⟩
  refine ⟨.int k, rfl, _, rfl, two_size, fun t ht => ?_⟩
  have s1 := same_new (o := .lst [.int (-1), .int 1]) ht
  refine ⟨.str (wS r), rfl, rfl, .inr ⟨_, rfl, t, _, _, .int (if r = true then 1 else -1), rfl, rfl, .inl (.inl upd_same), ?_, _, _, rfl, rfl, ?_⟩⟩
  · rw [way_right]
    cases r
    · exact at0
    · exact at1
  refine ⟨_, rfl, .ref a, rfl, a, _, rfl, .inl (s1.seq hL), _, rfl, fun g hg => ?_⟩
  have s2 := s1.trans (same_new (o := .rng 0 ((ln.map V.int).length : Int)) hg)
  refine ⟨_, g, 0, _, rfl, rfl, upd_same, _, rfl, ?_⟩
  rw [List.length_map] at s2 ⊢
  rcases lane_ahead (r := r) hk with ⟨m, e, em, hm⟩ | ⟨e, hn⟩
  · refine iteT' (decide_eq_true ⟨by omega, by omega⟩) ⟨_, rfl, two_size, nT_q fun H3 p s3 tp => q H3 p (s2.trans s3) ?_⟩
    rw [e]
    have tp' : TupAt H3 p [.str "lane", .int ((k : Int) + (if r = true then 1 else -1))] := tp
    rw [em] at tp'
    exact tp'
  · refine iteF' (decide_eq_false hn) ⟨one_size, nT_q fun H3 p s3 tp => q H3 p (s2.trans s3) ?_⟩
    rw [e]
    exact tp
def spLMoves (K : PySem.W.Frag) : Sp := fun vs H Q _ => ∃ a b c ln wy S, vs = [.ref a, .ref b, .ref c] ∧ LaneAt K H a ln ∧ WaysAt K H b wy ∧ StandAt H c S ∧ OkStand ln wy S ∧
  ∀ H' p xs, Same H H' → H p = none → H' p = some (.lst xs) → ImAll H' xs ((allPairs ln wy S).map (dPr S)) → Q (.ref p) H'
/-- what the k-th train may do, as words and spots -/
def wordsOf (ln : List Int) (wy : List Bool) (S : Stand) (k : Nat) : List (Wd × Spot) := (choices ln wy S k).map fun c => (c.1.1, c.2)
def firstWord (ln : List Int) (S : Stand) (sp : Spot) (r : Bool) : List (Wd × Spot) := match sp with
  | .lane p => if hasRoom ln S (spotAhead ln r p) then [(.go, spotAhead ln r p)] else []
  | .side p => if hasRoom ln S (spotAhead ln r p) then [(.on, spotAhead ln r p)] else []
  | .out => []
def nextWord (ln : List Int) (S : Stand) (sp : Spot) : List (Wd × Spot) := match sp with
  | .lane p => if hasRoom ln S (.side p) then [(.aside, .side p)] else []
  | _ => []
theorem words_split {ln : List Int} {wy : List Bool} {S : Stand} {k : Nat} {sp : Spot} {r : Bool} (h : S.getD k .out = sp) (hr : wy.getD k true = r) : wordsOf ln wy S k = firstWord ln S sp r ++ nextWord ln S sp := by
  unfold wordsOf choices firstWord nextWord
  rw [h]
  cases sp with
  | out => rfl
  | lane p =>
    simp only [hr]
    by_cases h1 : hasRoom ln S (spotAhead ln r p) = true <;> by_cases h2 : hasRoom ln S (.side p) = true <;> simp [h1, h2]
  | side p =>
    simp only [hr]
    by_cases h1 : hasRoom ln S (spotAhead ln r p) = true <;> simp [h1]
theorem words_mem {ln : List Int} {wy : List Bool} {S : Stand} {k j : Nat} {wd : Wd} {sp : Spot} (h : (wordsOf ln wy S k)[j]? = some (wd, sp)) : (choices ln wy S k)[j]? = some ((wd, k), sp) := by
  unfold wordsOf at h
  rw [List.getElem?_map] at h
  cases e : (choices ln wy S k)[j]? with
  | none => rw [e] at h; cases h
  | some c =>
    rw [e] at h
    obtain ⟨⟨w', k'⟩, s'⟩ := c
    obtain ⟨hk, _⟩ := mem_choices (mem_of_some e)
    have h' : (w', s') = (wd, sp) := Option.some.inj h
    cases h'
    have hk' : k' = k := hk
    subst hk'
    rfl
theorem words_len (ln : List Int) (wy : List Bool) (S : Stand) (k : Nat) : (wordsOf ln wy S k).length = (choices ln wy S k).length := List.length_map ..
theorem take_snoc {α : Type} {l : List α} {j : Nat} {x : α} (h : l[j]? = some x) : l.take (j + 1) = l.take j ++ [x] := by rw [List.take_add_one, h]; rfl
theorem ok_lMoves (T : Txt K mg) : DefOk P w K mg base 2 "_law_moves" ["_law_lane", "_law_ways", "_law_stand"] (spLMoves K) := by
  have D_lOn : DefOk P w K mg base 1 "_law_on" ["_law_lane", "_law_way", "_law_place"] (spLOn K) := ok_lOn T
  refine T.f_lMoves.ok sc_lMoves (fun vs H Q E h => by obtain ⟨a, b, c, ln, wy, S, rfl, _⟩ := h; rfl) (fun f cdv A outer s H vs Q E hr h => ?_)
  obtain ⟨a, b, c, ln, wy, S, rfl, hL, hW, ⟨xs, ec, im⟩, ok, q⟩ := h
  have zl := StandAt.len im
  have z6 := stand_size ok im
  refine ⟨_, (pss_cons (ps_set (i := 3) sc_lMoves.nd rfl (.inl rfl) (pe_lst pa_nil))
      (pss_cons (ps_for PassesOwn.never rfl (pi_range1 (by rfl) T.b_range (pa_cons (pe_callB call_len_seq (by rfl) T.b_len (by decide +kernel) (pa_cons (pv 2) pa_nil)) pa_nil)) (pg_name (i := 4) sc_lMoves.nd rfl (.inl rfl)) (pss_cons (ps_if (pt_cmpR op_eq (pe_ix (r := rIxT K) ix_tup (pe_ix (r := rIxT K) ix_tup (pv 2) (pv 4) (fun _ _ => rfl)) pe_int (fun _ _ => rfl)) pe_str (nomark _)) (pss_one ps_continue) pss_nil)
      (pss_cons (ps_set (i := 5) sc_lMoves.nd rfl (.inl rfl) (pe_def D_lOn (hr.mono (by omega)) (pa_cons (pv 0) (pa_cons (pe_ix (r := rIxL K) ix_list (pv 1) (pv 4) (fun _ _ => rfl)) (pa_cons (pe_ix (r := rIxT K) ix_tup (pe_ix (r := rIxT K) ix_tup (pv 2) (pv 4) (fun _ _ => rfl)) pe_int (fun _ _ => rfl)) pa_nil)))))
      (pss_cons (ps_set (i := 6) sc_lMoves.nd rfl (.inl rfl) (pe_lst pa_nil))
      (C8.pss_cut (ps_if (PW.pt (pw_or (pt_cmpR (r := rNotInT K) (op_notInT (hu65 hr)) (pv 5) (pv 2) (by rfl)) (pw_or1 (pt_cmpR op_eq (pe_ix (r := rIxT K) ix_tup (pv 5) pe_int (fun _ _ => rfl)) pe_str (nomark _))))) (pss_one (ps_expr (pe_bm PySem.F.plainAttrs_list PySem.F.slot_list_append PySem.F.type_list_append mt_append (pv 6) (pa_cons (pe_tupF (pa_cons (pe_dget (hu_of hr) (pe_disp (pps_cons pe_str pe_str (pps_cons pe_str pe_str pps_nil)) (by rfl) (by rfl) (fun z => by cases z) (by decide)) (pe_ix (r := rIxT K) ix_tup (pe_ix (r := rIxT K) ix_tup (pv 2) (pv 4) (fun _ _ => rfl)) pe_int (fun _ _ => rfl)) (fun _ _ => rfl)) (pa_cons (pv 5) pa_nil))) pa_nil)))) pss_nil)
      (pss_cons (ps_set (i := 7) sc_lMoves.nd rfl (.inr rfl) (pe_tupF (pa_cons pe_str (pa_cons (pe_ix (r := rIxT K) ix_tup (pe_ix (r := rIxT K) ix_tup (pv 2) (pv 4) (fun _ _ => rfl)) pe_int (fun _ _ => rfl)) pa_nil))))
      (C8.pss_cut (ps_if (PW.pt (pw_and (pt_cmpR op_eq (pe_ix (r := rIxT K) ix_tup (pe_ix (r := rIxT K) ix_tup (pv 2) (pv 4) (fun _ _ => rfl)) pe_int (fun _ _ => rfl)) pe_str (nomark _)) (pw_and1 (pt_cmpR op_lt (pe_callB call_len_seq (by rfl) T.b_len (by decide +kernel) (pa_cons (pe_lc (g := gName 8) (own := [("_law_one", 8)]) rfl sc_lMoves.nd (pi_tupK (K := K) (pv 2)) (blkOk_by (own := [("_law_one", 8)]) (N := ["_law_lane", "_law_ways", "_law_stand", "_law_found", "_law_k", "_law_spot_here", "_law_some", "_law_here", "_law_one", "_law_word", "_law_goal"]) (sc := defScope s_lMoves) (by decide +kernel)) (fun _ _ _ _ _ => (pg_name (i := 8) sc_lMoves.nd rfl (.inl rfl))) (fun _ _ _ _ _ => (pts_one (pt_cmpR (r := rEqD K) (op_eqD (hu64 hr)) (pv 8) (pv 7) (nomark _)))) (fun _ _ _ _ _ => (pv 8))) pa_nil)) (pe_ix (r := rIxL K) ix_list (pv 0) (pe_ix (r := rIxT K) ix_tup (pv 7) pe_int (fun _ _ => rfl)) (fun _ _ => rfl)) (nomark _))))) (pss_one (ps_expr (pe_bm PySem.F.plainAttrs_list PySem.F.slot_list_append PySem.F.type_list_append mt_append (pv 6) (pa_cons (pe_tupF (pa_cons pe_str (pa_cons (pv 7) pa_nil))) pa_nil)))) pss_nil)
      (pss_one (ps_for PassesOwn.never rfl (pi_listK (K := K) (pv 6)) (pg_tup rfl (pgs_cons (pg_name (i := 9) sc_lMoves.nd rfl (.inl rfl)) (pgs_cons (pg_name (i := 10) sc_lMoves.nd rfl (.inl rfl)) pgs_nil))) (pss_one (ps_expr (pe_bm PySem.F.plainAttrs_list PySem.F.slot_list_append PySem.F.type_list_append mt_append (pv 3) (pa_cons (pe_tupF (pa_cons (pe_tupF (pa_cons (pv 9) (pa_cons (pv 4) pa_nil))) (pa_cons (pe_op (r := rCatF K) op_catF (pe_op (r := rCatF K) op_catF (pe_slice (r := rSlF K) sl_tupF (pv 2) po_none (po_some (pv 4))) (pe_tupF (pa_cons (pv 10) pa_nil))) (pe_slice (r := rSlF K) sl_tupF (pv 2) (po_some (pe_op op_add (pv 4) pe_int)) po_none)) pa_nil))) pa_nil)))))))))))))
      (pss_one (ps_ret (pv 3))))), ?_⟩
  refine ⟨Nat.zero_le _, fun F hF => ?_⟩
  have sF := same_new (o := .lst []) hF
  refine ⟨.ref c, rfl, c, xs, rfl, .inr (Ti.of sF _ _ ec).sq, _, rfl, by omega, by omega, ?_⟩
  refine for_it (walk_range (lo := 0) (n := (xs.length : Int).toNat)) (fun i σ H1 => Same H H1 ∧ (∃ acc, H1 F = some (.lst acc) ∧ ImAll H1 acc (((List.range i).flatMap fun k => choices ln wy S k).map (dPr S))) ∧ ∃ y4 y5 y6 y7 y9 y10, σ = [some (.ref a), some (.ref b), some (.ref c), some (.ref F), y4, y5, y6, y7, none, y9, y10])
    ⟨sF, ⟨[], upd_same, .nil⟩, none, none, none, none, none, none, rfl⟩ (fun _ _ _ _ _ => trivial) (fun i x σ H1 H2 hi p y => ?_) (fun σ H1 p => ?_)
  · obtain ⟨s1, ⟨acc, ea, ia⟩, y4, y5, y6, y7, y9, y10, rfl⟩ := p
    obtain ⟨rfl, rfl⟩ := y
    have hi2 : i < S.length := by omega
    have es : S[i]? = some (S.getD i .out) := getD_lt hi2
    have ew : wy[i]? = some (wy.getD i true) := getD_lt (by rw [← ok.len]; exact hi2)
    have ewV : (wy.map fun b => V.str (wS b))[i]? = some (.str (wS (wy.getD i true))) := by rw [List.getElem?_map, ew]; rfl
    obtain ⟨p, ep, hp⟩ := stand_get im es
    have e0 : (0 : Int) + (i : Int) = (i : Int) := by omega
    have at_ : ∀ {v : V}, xs[i]? = some v → atI xs (0 + (i : Int)) = some v := fun h => by rw [e0]; exact atI_nat h
    have atw : ∀ {v : V}, (wy.map fun b => V.str (wS b))[i]? = some v → atI (wy.map fun b => V.str (wS b)) (0 + (i : Int)) = some v := fun h => by rw [e0]; exact atI_nat h
    have okp := ok.spot _ (mem_of_some es)
    generalize hsp : S.getD i .out = sp at es hp okp
    generalize hwr : wy.getD i true = r at ew ewV
    have flat : (List.range (i + 1)).flatMap (fun k => choices ln wy S k) = (List.range i).flatMap (fun k => choices ln wy S k) ++ choices ln wy S i := by
      rw [List.range_succ, List.flatMap_append]; simp
    by_cases hout : sp = .out
    · subst hout
      refine ⟨.ref c, rfl, .int (0 + (i : Int)), rfl, c, xs, _, _, rfl, rfl, (Ti.of s1 _ _ ec).sq, at_ ep, p, _, 0, _, rfl, rfl, (Ti.of s1 _ _ hp).sq, at0, rfl, _, rfl, iteT' (decide_eq_true rfl) ?_⟩
      refine ⟨s1, ⟨acc, ea, ?_⟩, _, _, _, _, _, _, rfl⟩
      rw [flat, show choices ln wy S i = [] by unfold choices; rw [hsp], List.append_nil]
      exact ia
    obtain ⟨wd0, m, evs, hfst⟩ : ∃ (wd0 : Str) (m : Nat), vS sp = [.str wd0, .int m] ∧ (sp = .lane m ∧ wd0 = "lane" ∨ sp = .side m ∧ wd0 = "side") := by
      cases sp with
      | out => exact absurd rfl hout
      | lane m => exact ⟨_, m, rfl, .inl ⟨rfl, rfl⟩⟩
      | side m => exact ⟨_, m, rfl, .inr ⟨rfl, rfl⟩⟩
    have okm : m < ln.length := by rcases hfst with ⟨e, _⟩ | ⟨e, _⟩ <;> rw [e] at okp <;> exact okp
    have hpv : ∀ {G : Hp}, Same H G → TupAt G p [.str wd0, .int m] := fun g => by have z := Ti.of g _ _ hp; rw [evs] at z; exact z
    have wne : decide (V.str wd0 = .str "out") = false := by rcases hfst with ⟨_, e⟩ | ⟨_, e⟩ <;> rw [e] <;> decide
    refine ⟨.ref c, rfl, .int (0 + (i : Int)), rfl, c, xs, _, _, rfl, rfl, (Ti.of s1 _ _ ec).sq, at_ ep, p, _, 0, _, rfl, rfl, (hpv s1).sq, at0, ?_, ?_⟩
    · rfl
    refine ⟨_, rfl, iteF' wne ?_⟩
    refine ⟨.ref a, rfl, .ref b, rfl, .int (0 + (i : Int)), rfl, b, _, _, _, rfl, rfl, s1.seq hW, atw ewV, .ref c, rfl, .int (0 + (i : Int)), rfl, c, xs, _, _, rfl, rfl, (Ti.of s1 _ _ ec).sq, at_ ep, p, _, 1, _, rfl, rfl, (hpv s1).sq, at1, ?_⟩
    refine ⟨a, ln, r, m, rfl, s1.seq hL, okm, fun H3 g3 s3 hg3 => ⟨Nat.zero_le _, fun So hSo => ?_⟩⟩
    have s13 := s1.trans s3
    have s4 := s13.trans (same_new (o := .lst []) hSo)
    have nFS : F ≠ So := ne_of_none (s3 _ _ ea) hSo
    have ea4 := same_new (o := .lst []) hSo _ _ (s3 _ _ ea)
    have ia4 := ia.mono ((Ti.of s3).trans (Ti.new (o := .lst []) hSo))
    have hg4 := Ti.new (o := .lst []) hSo _ _ hg3
    have eS4 : (upd H3 So (.lst [])) So = some (.lst []) := upd_same
    have hS0 : H So = none := s13.free hSo
    have hF0 := hF
    generalize upd H3 So (.lst []) = H4 at s4 ea4 ia4 hg4 eS4
    -- what the words so far are
    let Mid : List (Wd × Spot) → Option V → L2.St → Hp → Prop := fun L y7 σ' H' => Same H H' ∧ (H' F = some (.lst acc) ∧ ImAll H' acc (((List.range i).flatMap fun k => choices ln wy S k).map (dPr S))) ∧ (∃ ys, H' So = some (.lst ys) ∧ ImAll H' ys (L.map dWS)) ∧
      σ' = [some (.ref a), some (.ref b), some (.ref c), some (.ref F), some (.int (0 + (i : Int))), some (.ref g3), some (.ref So), y7, none, y9, y10]
    refine ⟨Mid (firstWord ln S sp r) y7, ?_, fun σ5 H5 m5 => ?_⟩
    · have fw : firstWord ln S sp r = if hasRoom ln S (spotAhead ln r m) then [(if wd0 = "lane" then Wd.go else Wd.on, spotAhead ln r m)] else [] := by
        rcases hfst with ⟨e, e'⟩ | ⟨e, e'⟩ <;> rw [e, e'] <;> rfl
      have app : ∀ G : Hp, Same H4 G → hasRoom ln S (spotAhead ln r m) = true → ∀ Dx : Ends, Dx.nx = Mid (firstWord ln S sp r) y7 → tDrop (tBM K "list" rAppend (tVar 6) (tCons (tTupF (tCons (tDGet (tDisp [(tC (.str "lane"), tC (.str "go")), (tC (.str "side"), tC (.str "on"))]) (tOp (rIxT K) (tOp (rIxT K) (tVar 2) (tVar 4)) (tC (.int 0)))) (tCons (tVar 5) tNil))) tNil)) Dx
          [some (.ref a), some (.ref b), some (.ref c), some (.ref F), some (.int (0 + (i : Int))), some (.ref g3), some (.ref So), y7, none, y9, y10] G := fun G sG hroom Dx eD => by
        refine ⟨.ref So, rfl, .inl ⟨rfl, _, .inl (.inl (sG _ _ eS4))⟩, fun d hd => ⟨upd_same, [(.inr "lane", .str "go"), (.inr "side", .str "on")], rfl, by show 2 ≤ 15; decide, ?_⟩⟩
        have sd := same_new (o := .dK (mergeK [] [((.inr "lane" : Key), V.str "go"), (.inr "side", .str "on")])) hd
        rw [upd_upd]
        refine ⟨.ref c, rfl, .int (0 + (i : Int)), rfl, c, xs, _, _, rfl, rfl, (Ti.of ((s4.trans sG).trans sd) _ _ ec).sq, at_ ep, p, _, 0, _, rfl, rfl, (hpv ((s4.trans sG).trans sd)).sq, at0, d, .str (dW (if wd0 = "lane" then Wd.go else Wd.on)), rfl, ?_, ?_⟩
        · have z := DGet.k (H := upd G d (.dK (mergeK [] [((.inr "lane" : Key), V.str "go"), (.inr "side", .str "on")]))) (a := d) (k := .inr wd0) upd_same
          have e : valV (mergeK [] [((.inr "lane" : Key), V.str "go"), (.inr "side", .str "on")]) (.inr wd0) = some (.str (dW (if wd0 = "lane" then Wd.go else Wd.on))) := by
            rcases hfst with ⟨_, e⟩ | ⟨_, e⟩ <;> rw [e] <;> decide
          rw [e] at z
          exact z
        refine ⟨.ref g3, rfl, two_size, fun t o ht ho => ?_⟩
        have st := same_new (o := .frz o (.tup [.str (dW (if wd0 = "lane" then Wd.go else Wd.on)), .ref g3])) ht
        have sGt := (sG.trans sd).trans st
        refine ⟨So, [], _, rfl, rfl, sGt _ _ eS4, by decide, ?_⟩
        have tl := Ti.lst (o := .lst ([] ++ [.ref t])) (sGt _ _ eS4)
        rw [eD]
        refine ⟨same_mut (s4.trans sGt) hS0, ⟨by rw [upd_ne nFS]; exact sGt _ _ ea4, ia4.mono ((Ti.of sGt).trans tl)⟩, ⟨_, upd_same, ?_⟩, rfl⟩
        rw [fw, if_pos hroom]
        exact .cons (.tup (tl _ _ (TupAt.new ho)) (.cons (.str _) (.cons (Im.mono ((Ti.of sGt).trans tl) (SpotAt.im hg4)) .nil))) .nil
      refine ⟨.ref g3, rfl, .ref c, rfl, dS (spotAhead ln r m), S.map dS, ⟨(SpotAt.im hg4).dp, (Im.tup (Ti.of s4 _ _ ec) (im.mono (Ti.of s4))).dp⟩, ⟨shaped_spot _, shaped_stand S⟩, _, rfl, ?_⟩
      rw [any_spot]
      rcases lane_ahead (r := r) okm with ⟨gg, eg, _, _⟩ | ⟨eo, _⟩
      · rw [eg] at hg4 fw app ⊢
        by_cases hin : Spot.lane gg ∈ S
        · rw [decide_eq_true hin]
          refine iteF ⟨.ref g3, rfl, g3, _, 0, _, rfl, rfl, hg4.sq, at0, rfl, _, rfl, iteF' (decide_eq_false (by decide)) ?_⟩
          refine ⟨s4, ⟨ea4, ia4⟩, ⟨[], eS4, ?_⟩, rfl⟩
          rw [fw, lane_room, if_neg (by simpa using hin)]
          exact .nil
        · rw [decide_eq_false hin]
          exact iteT (iteT (app H4 (Same.refl _) (by rw [lane_room]; exact decide_eq_true hin) _ rfl))
      · rw [eo] at hg4 fw app ⊢
        have hr : hasRoom ln S .out = true := out_room ok es hout
        by_cases hin : Spot.out ∈ S
        · rw [decide_eq_true hin]
          exact iteF ⟨.ref g3, rfl, g3, _, 0, _, rfl, rfl, hg4.sq, at0, rfl, _, rfl, iteT' (decide_eq_true rfl) (app H4 (Same.refl _) hr _ rfl)⟩
        · rw [decide_eq_false hin]
          exact iteT (iteT (app H4 (Same.refl _) hr _ rfl))
    obtain ⟨s5, ⟨ea5, ia5⟩, ⟨ys, eS5, iy5⟩, rfl⟩ := m5
    refine ⟨.ref c, rfl, .int (0 + (i : Int)), rfl, c, xs, _, _, rfl, rfl, (Ti.of s5 _ _ ec).sq, at_ ep, p, _, 1, _, rfl, rfl, (hpv s5).sq, at1, two_size, nT_q fun H6 h6 s6 t6 => ?_⟩
    have s56 := s5.trans s6
    refine ⟨Mid (wordsOf ln wy S i) (some (.ref h6)), ?_, fun σ7 H7 m7 => ?_⟩
    · rw [words_split hsp hwr]
      rcases hfst with ⟨e, e'⟩ | ⟨e, e'⟩
      · subst e'
        refine ⟨.ref c, rfl, .int (0 + (i : Int)), rfl, c, xs, _, _, rfl, rfl, (Ti.of s56 _ _ ec).sq, at_ ep, p, _, 0, _, rfl, rfl, (hpv s56).sq, at0, rfl, _, rfl, iteT' (decide_eq_true rfl) ?_⟩
        refine ⟨.ref c, rfl, c, rfl, ⟨xs, (Ti.of s56 _ _ ec).sq⟩, fun D hD => ?_⟩
        refine lc_it (walk_tup (K := K) (a := c) (xs := xs)) (fun j G => Same H6 G ∧ ∃ ac2, G D = some (.lst ac2) ∧ ac2.length = (S.take j).count (.side m)) ⟨same_new hD, [], upd_same, by simp⟩ (fun j G _ p => (Ti.of (s56.trans p.1) _ _ ec).sq) (fun j x G G' hj p y => ?_) (fun G p => ?_)
        · obtain ⟨rfl, ex⟩ := y
          obtain ⟨sG, ac2, eG, lG⟩ := p
          obtain ⟨pj, sj, rfl, esj, hsj⟩ := stand_getV im ex
          have sG6 := s56.trans sG
          refine ⟨rfl, .ref pj, rfl, .ref h6, rfl, dS sj, dS (.side m), (SpotAt.im (Ti.of sG6 _ _ hsj)).dp, (SpotAt.im (s := .side m) (Ti.of sG _ _ t6)).dp, shaped_spot _, shaped_spot _, _, rfl, ?_⟩
          rw [eqv_spot, take_snoc esj, List.count_append]
          by_cases hq : sj = .side m
          · rw [decide_eq_true hq]
            refine iteT ⟨.ref pj, rfl, ac2, eG, ?_, same_mut sG hD, _, upd_same, ?_⟩
            · have := List.count_le_length (a := Spot.side m) (l := S.take j)
              have h2 : (S.take j).length ≤ S.length := (by rw [List.length_take]; omega)
              exact Nat.lt_of_le_of_lt (by omega : _ ≤ 8) (by decide)
            · rw [List.length_append, lG, hq]; simp
          · rw [decide_eq_false hq]
            refine iteF ⟨sG, ac2, eG, ?_⟩
            rw [lG]
            have : (sj == Spot.side m) = false := beq_eq_false_iff_ne.mpr hq
            simp [List.count_cons, this]
        · obtain ⟨sG, ac2, eG, lG⟩ := p
          have lG' : ac2.length = S.count (.side m) := by rw [lG, zl, List.take_length]
          have sG6 := s56.trans sG
          refine ⟨D, ac2, rfl, .inl (.inl (.inl eG)), .ref a, rfl, .ref h6, rfl, h6, _, 1, _, rfl, rfl, (Ti.of sG _ _ t6).sq, at1, a, _, (m : Int), _, rfl, rfl, sG6.seq hL, lane_at okm, _, _, rfl, rfl, _, rfl, ?_⟩
          rw [lG']
          have nw : nextWord ln S sp = if hasRoom ln S (.side m) then [(.aside, .side m)] else [] := by rw [e]; rfl
          have s5G := s6.trans sG
          refine ite2 (fun hc => ?_) (fun hc => ?_)
          · have hroom : hasRoom ln S (.side m) = true := hc
            refine ⟨.ref So, rfl, .inl ⟨rfl, _, .inl (.inl (s5G _ _ eS5))⟩, .ref h6, rfl, two_size, fun t o ht ho => ?_⟩
            have st := same_new (o := .frz o (.tup [.str "aside", .ref h6])) ht
            have sGt := s5G.trans st
            refine ⟨So, ys, _, rfl, rfl, sGt _ _ eS5, ?_, ?_⟩
            · have := iy5.length
              rw [List.length_map] at this
              have : (firstWord ln S sp r).length ≤ 1 := by rw [e]; show (if _ then _ else _ : List (Wd × Spot)).length ≤ 1; split <;> simp
              exact Nat.lt_of_le_of_lt (by omega : _ ≤ 8) (by decide)
            have tl := Ti.lst (o := .lst (ys ++ [.ref t])) (sGt _ _ eS5)
            refine ⟨same_mut (s5.trans sGt) hS0, ⟨by rw [upd_ne nFS]; exact sGt _ _ ea5, ia5.mono ((Ti.of sGt).trans tl)⟩, ⟨_, upd_same, ?_⟩, rfl⟩
            rw [nw, if_pos hroom, List.map_append]
            exact (iy5.mono ((Ti.of sGt).trans tl)).append (.cons (.tup (tl _ _ (TupAt.new ho)) (.cons (.str _) (.cons (SpotAt.im (s := .side m) (((Ti.of sG).trans (Ti.of st)).trans tl _ _ t6)) .nil))) .nil)
          · have hroom : ¬ hasRoom ln S (.side m) = true := hc
            refine ⟨s5.trans s5G, ⟨s5G _ _ ea5, ia5.mono (Ti.of s5G)⟩, ⟨ys, s5G _ _ eS5, ?_⟩, rfl⟩
            rw [nw, if_neg hroom, List.append_nil]
            exact iy5.mono (Ti.of s5G)
      · subst e'
        refine ⟨.ref c, rfl, .int (0 + (i : Int)), rfl, c, xs, _, _, rfl, rfl, (Ti.of s56 _ _ ec).sq, at_ ep, p, _, 0, _, rfl, rfl, (hpv s56).sq, at0, rfl, _, rfl, iteF' (decide_eq_false (by decide)) (iteF ?_)⟩
        refine ⟨s56, ⟨s6 _ _ ea5, ia5.mono (Ti.of s6)⟩, ⟨ys, s6 _ _ eS5, ?_⟩, rfl⟩
        rw [show nextWord ln S sp = [] by rw [e]; rfl, List.append_nil]
        exact iy5.mono (Ti.of s6)
    obtain ⟨s7, ⟨ea7, ia7⟩, ⟨zs, eS7, iz7⟩, rfl⟩ := m7
    have lz : zs.length = (choices ln wy S i).length := by rw [iz7.length, List.length_map, words_len]
    refine ⟨.ref So, rfl, So, rfl, ⟨_, .inl (.inl eS7)⟩, ?_⟩
    refine for_it (walk_list (K := K) (a := So) (xs := zs)) (fun j σ G => Same H G ∧ Ti H7 G ∧ G So = some (.lst zs) ∧ (∃ ac2, G F = some (.lst ac2) ∧ ImAll G ac2 ((((List.range i).flatMap fun k => choices ln wy S k) ++ (choices ln wy S i).take j).map (dPr S))) ∧
        ∃ y9 y10, σ = [some (.ref a), some (.ref b), some (.ref c), some (.ref F), some (.int (0 + (i : Int))), some (.ref g3), some (.ref So), some (.ref h6), none, y9, y10])
      ⟨s7, Ti.refl _, eS7, ⟨acc, ea7, by rw [List.take_zero, List.append_nil]; exact ia7⟩, y9, y10, rfl⟩ (fun j σ G _ p => .inl (.inl p.2.2.1)) (fun j x σ G G' hj p y => ?_) (fun σ G p => ?_)
    · obtain ⟨sG, tG, eSG, ⟨ac2, eFG, iG⟩, y9', y10', rfl⟩ := p
      obtain ⟨rfl, ex⟩ := y
      obtain ⟨d, ed, imd⟩ := iz7.getV ex
      rw [List.getElem?_map] at ed
      cases ew2 : (wordsOf ln wy S i)[j]? with
      | none => rw [ew2] at ed; cases ed
      | some wsp =>
        obtain ⟨wd, sp2⟩ := wsp
        rw [ew2] at ed
        cases ed
        have ech := words_mem ew2
        obtain ⟨t, u1, u2, rfl, tt, i1, i2⟩ := im_pair imd
        have e1 := im_str i1
        subst e1
        obtain ⟨pq, rfl, hsq⟩ := im_spot i2
        refine ⟨t, _, rfl, (tG _ _ tt).sq, rfl, _, _, rfl, _, _, rfl, rfl, ?_⟩
        refine ⟨.ref F, rfl, .inl ⟨rfl, _, .inl (.inl eFG)⟩, .str (dW wd), rfl, .int (0 + (i : Int)), rfl, two_size, nT_q fun G1 m1 s1' tm1 => ?_⟩
        rw [e0] at tm1
        refine ⟨.ref c, rfl, .int (0 + (i : Int)), rfl, _, rfl, ?_⟩
        rw [e0]
        refine slF (Ti.of (sG.trans s1') _ _ ec) fun G2 p2 s2' t2' => ?_
        rw [cut_to (by omega)] at t2'
        refine ⟨.ref pq, rfl, one_size, nT_q fun G3 p3 s3' t3' => catF (Ti.of s3' _ _ t2') t3' (by simp [sizeLine_eq]; omega) fun G4 p4 s4' t4' => ?_⟩
        have s24 := (s2'.trans s3').trans s4'
        refine ⟨.ref c, rfl, .int (i : Int), rfl, _, 1, rfl, rfl, _, rfl, ?_⟩
        show rSlF K (.ref c) (some ((i : Int) + 1)) none G4 fun y H2 => rCatF K (.ref p4) y H2 _
        refine slF (Ti.of (sG.trans (s1'.trans s24)) _ _ ec) fun G5 p5 s5' t5' => ?_
        have t5'' : TupAt G5 p5 (xs.drop (i + 1)) := by
          have e2 : cutV xs (some ((i : Int) + 1)) none = xs.drop (i + 1) := by
            have := cut_from (xs := xs) (k := i + 1) (by omega)
            rw [← this]
            congr 2
          rw [← e2]
          exact t5'
        refine catF (Ti.of s5' _ _ t4') t5'' (by simp [sizeLine_eq]; omega) fun G6 p6 s6' t6' => ?_
        rw [set_parts (by omega)] at t6'
        have s16 := (s1'.trans s24).trans (s5'.trans s6')
        refine ⟨two_size, nT_q fun G7 p7 s7' t7' => ?_⟩
        have s17 := s16.trans s7'
        refine ⟨F, ac2, _, rfl, rfl, s17 _ _ eFG, ?_, ?_⟩
        · have h1 := iG.length
          have h2 := flat_len ln wy S i
          have h3 := choices_len ln wy S i
          rw [h1, List.length_map, List.length_append, List.length_take]
          exact Nat.lt_of_le_of_lt (by omega : _ ≤ 1000) (by decide)
        have tl := Ti.lst (o := .lst (ac2 ++ [.ref p7])) (s17 _ _ eFG)
        refine ⟨same_mut (sG.trans s17) hF0, (tG.trans (Ti.of s17)).trans tl, by rw [upd_ne (Ne.symm nFS)]; exact s17 _ _ eSG, ⟨_, upd_same, ?_⟩, _, _, rfl⟩
        rw [take_snoc ech, ← List.append_assoc, List.map_append]
        have s67 := s7'
        refine (iG.mono ((Ti.of s17).trans tl)).append (.cons (.tup (tl _ _ t7') (.cons ?_ (.cons ?_ .nil))) .nil)
        · exact .tup (tl _ _ (Ti.of (((s24.trans (s5'.trans s6')).trans s7')) _ _ tm1)) (.cons (.str _) (.cons (.int _) .nil))
        · refine .tup (tl _ _ (Ti.of s7' _ _ t6')) ?_
          rw [List.map_set]
          exact ImAll.set (Im.mono (((tG.trans (Ti.of s17))).trans tl) (SpotAt.im hsq)) i (im.mono ((Ti.of (sG.trans s17)).trans tl))
    · obtain ⟨sG, tG, eSG, ⟨ac2, eFG, iG⟩, y9', y10', rfl⟩ := p
      refine ⟨sG, ⟨ac2, eFG, ?_⟩, _, _, _, _, _, _, rfl⟩
      rw [flat]
      have e : (choices ln wy S i).take zs.length = choices ln wy S i := List.take_of_length_le (by omega)
      rw [e] at iG
      exact iG
  · obtain ⟨s1, ⟨acc, ea, ia⟩, y4, y5, y6, y7, y9, y10, rfl⟩ := p
    refine ⟨.ref F, rfl, q H1 F acc s1 hF ea ?_⟩
    have e : (xs.length : Int).toNat = S.length := by omega
    rw [e] at ia
    exact ia
end
end Slx

set_option Elab.async false
set_option linter.all false
set_option maxRecDepth 100000
set_option maxHeartbeats 4000000
namespace Slx
open PySem PySem.Spec PyProof.Rows L2 Sl
/-! ### lists handed in, lists of moves, as data -/
def dLane (ln : List Int) : PyData := .list (ln.map PyData.int)
def dWays (wy : List Bool) : PyData := .list (wy.map fun b => PyData.str (wS b))
def dHand (ln : List Int) (wy : List Bool) : PyData := .list [dLane ln, dWays wy]
theorem eqv_self {d : PyData} (h : SeqAt.shaped d = true) : PyData.eqv d d = true := SeqAt.eqv_refl d (SeqAt.canLay_of_shaped h)
theorem flat_map {α : Type} (f : α → PyData) (h1 : ∀ x, PyData.canLay0 (f x) = true) (h2 : ∀ x, PyData.depth (f x) = 0) : ∀ l : List α, PyData.canLayAll0 (l.map f) = true ∧ PyData.depthAll (l.map f) = 0
  | [] => ⟨rfl, rfl⟩
  | x :: l => by
    obtain ⟨a, b⟩ := flat_map f h1 h2 l
    refine ⟨?_, ?_⟩
    · show (PyData.canLay0 (f x) && PyData.canLayAll0 (l.map f)) = true
      rw [h1, a]
      rfl
    · show max (PyData.depth (f x)) (PyData.depthAll (l.map f)) = 0
      rw [h2, b]
      rfl
theorem shaped_hand (ln : List Int) (wy : List Bool) : SeqAt.shaped (dHand ln wy) = true := by
  obtain ⟨a1, a2⟩ := flat_map (fun i : Int => PyData.int i) (fun _ => rfl) (fun _ => rfl) ln
  obtain ⟨b1, b2⟩ := flat_map (fun b : Bool => PyData.str (wS b)) (fun b => by cases b <;> decide +kernel) (fun _ => rfl) wy
  have c : PyData.canLay0 (dHand ln wy) = true := by
    show (PyData.canLayAll0 (ln.map PyData.int) && (PyData.canLayAll0 (wy.map fun b => PyData.str (wS b)) && true)) = true
    rw [a1, b1]
    rfl
  have d : PyData.depth (dHand ln wy) ≤ 64 := by
    simp only [dHand, dLane, dWays, PyData.depth, PyData.depthAll]
    rw [show PyData.depthAll (ln.map PyData.int) = 0 from a2, b2]
    decide
  unfold SeqAt.shaped
  rw [c, decide_eq_true d]
  rfl
/-- both lists, with their data -/
theorem dp_lane {K : PySem.W.Frag} {H : Hp} {a : Addr} {ln : List Int} (h : LaneAt K H a ln) : Dp K H (.ref a) (dLane ln) := .lst h (ImAll.dp (ImAll.of (by simp) fun i v d hv hd => by
  rw [List.getElem?_map] at hv hd
  cases e : ln[i]? with
  | none => rw [e] at hv; cases hv
  | some n =>
    rw [e] at hv hd
    cases hv
    cases hd
    exact .int n))
theorem dp_ways {K : PySem.W.Frag} {H : Hp} {a : Addr} {wy : List Bool} (h : WaysAt K H a wy) : Dp K H (.ref a) (dWays wy) := .lst h (ImAll.dp (ImAll.of (by simp) fun i v d hv hd => by
  rw [List.getElem?_map] at hv hd
  cases e : wy[i]? with
  | none => rw [e] at hv; cases hv
  | some b =>
    rw [e] at hv hd
    cases hv
    cases hd
    exact .str _))
theorem dp_hand {K : PySem.W.Frag} {H : Hp} {h a b : Addr} {ln : List Int} {wy : List Bool} (hh : SqL K H h [.ref a, .ref b]) (ha : LaneAt K H a ln) (hb : WaysAt K H b wy) : Dp K H (.ref h) (dHand ln wy) := .lst hh (.cons (dp_lane ha) (.cons (dp_ways hb) .nil))
theorem ne_same {K : PySem.W.Frag} {H : Hp} {x y : V} {d : PyData} {Q : Bool → Hp → Prop} (hx : Dp K H x d) (hy : Dp K H y d) (hs : SeqAt.shaped d = true) (q : Q false H) : rNeD K x y H (fun v H' => ∃ k, v = .bl k ∧ Q k H') :=
  ⟨d, d, hx, hy, hs, hs, _, rfl, by rw [eqv_self hs]; exact q⟩
theorem canLay_moves : ∀ M : List Mv, PyData.canLayAll0 (M.map dM) = true
  | [] => rfl
  | m :: M => by
    show (PyData.canLay0 (dM m) && PyData.canLayAll0 (M.map dM)) = true
    rw [canLay_moves M, SeqAt.canLay_of_shaped (shaped_move m)]
    rfl
theorem depth_moves : ∀ M : List Mv, PyData.depthAll (M.map dM) ≤ 2
  | [] => by show 0 ≤ 2; omega
  | m :: M => by
    have h := depth_moves M
    show max (PyData.depth (dM m)) (PyData.depthAll (M.map dM)) ≤ 2
    have h1 : PyData.depth (dM m) ≤ 2 := by simp [dM, PyData.depth, PyData.depthAll]
    omega
theorem shaped_moves (M : List Mv) : SeqAt.shaped (.list (M.map dM)) = true := by
  unfold SeqAt.shaped
  rw [show PyData.canLay0 (.list (M.map dM)) = true from canLay_moves M]
  have := depth_moves M
  have h : PyData.depth (.list (M.map dM)) ≤ 64 := by
    simp only [PyData.depth]; omega
  rw [decide_eq_true h]
  rfl
theorem any_move (M : List Mv) (m : Mv) : ((M.map dM).any fun z => PyData.eqv z (dM m)) = decide (m ∈ M) := by
  rw [List.any_map]
  induction M with
  | nil => simp
  | cons x M ih =>
    rw [List.any_cons, ih]
    show (PyData.eqv (dM x) (dM m) || _) = _
    rw [eqv_move]
    by_cases h : x = m
    · subst h; simp
    · have h2 : m ≠ x := fun e => h e.symm
      simp [h, h2]
section
variable {P : Program} {w : World} {K : PySem.W.Frag} {mg : Str → Option Value} {base : Heap}
def spAre (K : PySem.W.Frag) : Sp := fun vs H Q _ => ∃ (a b : Addr) (xs ys : List V) (M : List Mv), vs = [.ref a, .ref b] ∧ (H a = some (.lst xs) ∧ ImAll H xs (M.map dM)) ∧ (H b = some (.lst ys) ∧ ImAll H ys (M.map dM)) ∧ M.length ≤ 12 ∧ ∀ H', Same H H' → Q (.bl true) H'
theorem ok_lAre (T : Txt K mg) : DefOk P w K mg base 2 "_law_are_moves" ["_law_found", "_law_due"] (spAre K) := by
  have D_lWhole : DefOk P w K mg base 1 "_law_whole" ["_law_found"] spWhole := ok_whole T
  refine T.f_lAreMoves.ok sc_lAreMoves (fun vs H Q E h => by obtain ⟨a, b, xs, ys, M, rfl, _⟩ := h; rfl) (fun f cdv A outer s H vs Q E hr h => ?_)
  obtain ⟨a, b, xs, ys, M, rfl, ⟨ea, ia⟩, ⟨eb, ib⟩, z, q⟩ := h
  refine ⟨_, (pss_cons (ps_if (PW.pt (pw_or (pt_not (pt_val (pe_callB (r := rIsi K) (id := "isinstance") call_isi (by rfl) T.b_isinstance (by decide +kernel) (pa_cons (pv 0) (pa_cons (pe_ty (T := "list") T.b_list (by decide +kernel)) pa_nil))))) (pw_or1 (pt_cmpR (r := rNeD K) (op_neD (hu64 hr)) (pv 0) (pv 1) (nomark _))))) (pss_one (ps_ret pe_bl)) pss_nil)
      (pss_one (ps_ret (pe_callB (cr_all rfl) (by rfl) T.b_all (by decide +kernel) (pa_cons (pe_lc (g := gName 2) (own := [("_law_one", 2)]) rfl sc_lAreMoves.nd (pi_listK (K := K) (pv 0)) (blkOk_by (own := [("_law_one", 2)]) (N := ["_law_found", "_law_due", "_law_one"]) (sc := defScope s_lAreMoves) (by decide +kernel)) (fun _ _ _ _ _ => (pg_name (i := 2) sc_lAreMoves.nd rfl (.inl rfl))) (fun _ _ _ _ _ => pts_nil) (fun _ _ _ _ _ => (pe_and (pe_callB (r := rIsi K) (id := "isinstance") call_isi (by rfl) T.b_isinstance (by decide +kernel) (pa_cons (pv 2) (pa_cons (pe_ty (T := "tuple") T.b_tuple (by decide +kernel)) pa_nil))) (pe_and (pe_callB (r := rIsi K) (id := "isinstance") call_isi (by rfl) T.b_isinstance (by decide +kernel) (pa_cons (pe_ix (r := rIxT K) ix_tup (pv 2) pe_int (fun _ _ => rfl)) (pa_cons (pe_ty (T := "str") T.b_str (by decide +kernel)) pa_nil))) (pe_one (pe_def D_lWhole (hr.mono (by omega)) (pa_cons (pe_ix (r := rIxT K) ix_tup (pv 2) pe_int (fun _ _ => rfl)) pa_nil))))))) pa_nil))))), ?_⟩
  have lx : xs.length = M.length := by rw [ia.length, List.length_map]
  refine ⟨.ref a, rfl, .ref a, .ty "list", .type "list", .type "list", true, rfl, .ty _, .base (.lst ea), by rfl, _, rfl, iteF' rfl ?_⟩
  refine ⟨.ref a, rfl, .ref b, rfl, ?_⟩
  refine ne_same (d := .list (M.map dM)) (.lst (.inl (.inl ea)) ia.dp) (.lst (.inl (.inl eb)) ib.dp) (shaped_moves M) (iteF' rfl ?_)
  refine ⟨.ref a, rfl, a, rfl, ⟨_, .inl (.inl ea)⟩, fun D hD => ?_⟩
  refine lc_map (walk_list (K := K) (a := a) (xs := xs)) (fun _ y _ => y = .bl true) (fun _ _ _ _ _ e => e) (Nat.lt_of_le_of_lt (by omega : _ ≤ 12) (by decide)) hD (fun H' s => .inl (.inl (s _ _ ea))) (fun i x H1 H2 k hi s1 y hk => ?_) (fun H1 ys s1 e1 l1 el => ?_)
  · obtain ⟨rfl, ex⟩ := y
    obtain ⟨dd, ed, im⟩ := ia.getV ex
    rw [List.getElem?_map] at ed
    cases eM : M[i]? with
    | none => rw [eM] at ed; cases ed
    | some m =>
      rw [eM] at ed
      cases ed
      obtain ⟨p, rfl, tp⟩ := im_move (Im.mono (Ti.of s1) im)
      obtain ⟨o, eo, _⟩ := id tp
      refine ⟨rfl, .ref p, rfl, .ref p, .ty "tuple", .type "tuple", .type "tuple", true, rfl, .ty _, .fTuple eo, by rfl, _, rfl, iteT ?_⟩
      refine ⟨.ref p, rfl, p, _, 0, _, rfl, rfl, tp.sq, at0, .str (dW m.1), .ty "str", .type "str", .type "str", true, rfl, .ty _, .base (.str _), by rfl, _, rfl, iteT ?_⟩
      exact ⟨.ref p, rfl, p, _, 1, _, rfl, rfl, tp.sq, at1, (m.2 : Int), rfl, hk _ _ (Same.refl _) rfl⟩
  have e := bls_of (f := fun _ => true) l1 el
  subst e
  refine ⟨D, _, rfl, .inl (.inl e1), ?_⟩
  rw [all_true (fun _ _ => rfl)]
  exact q _ s1
end
end Slx

set_option Elab.async false
set_option linter.all false
set_option maxRecDepth 100000
set_option maxHeartbeats 4000000
namespace Slx
open PySem PySem.Spec PyProof.Rows L2 Sl
theorem allowed_len {ln : List Int} {wy : List Bool} {S : Stand} (ok : OkStand ln wy S) : (allowed ln wy S).length ≤ 12 := by
  have h := flat_len ln wy S S.length
  have h1 := ok.len
  have h2 := ok.most
  show ((allPairs ln wy S).map (·.1)).length ≤ 12
  rw [List.length_map]
  exact Nat.le_trans h (by omega)
theorem pair_in {ln : List Int} {wy : List Bool} {S : Stand} {c : Mv × Spot} (h : c ∈ allPairs ln wy S) : c.1.2 < S.length ∧ c ∈ choices ln wy S c.1.2 := by
  obtain ⟨k, hk, hc⟩ := List.mem_flatMap.mp h
  have e : c.1.2 = k := (mem_choices (m := c.1) (s := c.2) hc).1
  refine ⟨by rw [e]; exact List.mem_range.mp hk, ?_⟩
  rw [e]
  exact hc
section
variable {P : Program} {w : World} {K : PySem.W.Frag} {mg : Str → Option Value} {base : Heap}
def spLaw (K : PySem.W.Frag) : Sp := fun vs H Q _ => ∃ a, ∃ ns : List Int, vs = [.ref a] ∧ SqL K H a (ns.map V.int) ∧ ns.length ≤ 63 ∧ ∀ H', Q (.bl true) H'
theorem law_fn (T : Txt K mg) {f : Addr} {fd : FuncData} (F : Fun K "law" "law" s_law f fd) : FnOk P w K mg base CX0 7 f fd ["_law_script"] (spLaw K) := by
  obtain ⟨LE, C, ER⟩ := T.errs
  have D_lBuilt : DefOk P w K mg base 3 "_law_built" ["_law_script"] (spBuilt K) := ok_built T
  have D_lMoves : DefOk P w K mg base 2 "_law_moves" ["_law_lane", "_law_ways", "_law_stand"] (spLMoves K) := ok_lMoves T
  have D_lAreMoves : DefOk P w K mg base 2 "_law_are_moves" ["_law_found", "_law_due"] (spAre K) := ok_lAre T
  have D_lCellAt : DefOk P w K mg base 1 "_law_cell_at" ["_law_script", "_law_k"] (spCellAt K) := ok_cellAt T
  have D_lOdd : DefOk P w K mg base 1 "_law_odd" ["_law_cell", "_law_trains"] (spOdd K) := ok_lOdd T
  have D_allowed : DefOk P w K mg base 5 "allowed" ["lane", "ways", "stand"] (spAllowed K) := ok_allowed T
  have D_behind : DefOkR P w K mg base 5 "behind" ["lane", "ways", "stand", "move"] (spBehindR K C) := ok_behindR T ER
  have D_lRefused : DefOk P w K mg base 6 "_law_refused" ["_law_lane", "_law_ways", "_law_stand", "_law_move"] (spRefused K) := ok_lRefused T ER D_behind
  refine F.ok sc_law (fun vs H Q E h => by obtain ⟨a, ns, rfl, _⟩ := h; rfl) (fun cdv A outer s H vs Q E hr h => ?_)
  obtain ⟨a, ns, rfl, hA, hn, q⟩ := h
  refine ⟨_, (pss_cons (ps_asg (pe_def D_lBuilt (hr.mono (by omega)) (pa_cons (pv 0) pa_nil)) (pg_tup rfl (pgs_cons (pg_name (i := 1) sc_law.nd rfl (.inl rfl)) (pgs_cons (pg_name (i := 2) sc_law.nd rfl (.inl rfl)) (pgs_cons (pg_name (i := 3) sc_law.nd rfl (.inl rfl)) pgs_nil)))))
      (pss_cons (ps_set (i := 4) sc_law.nd rfl (.inl rfl) (pe_def D_lMoves (hr.mono (by omega)) (pa_cons (pv 1) (pa_cons (pv 2) (pa_cons (pv 3) pa_nil)))))
      (pss_cons (ps_setLc (g := gTup K 2 (gCons (gName 5) (gCons (gName 6) gNil))) (own := [("_law_move", 5), ("_law_fresh", 6)]) (i := 7) rfl sc_law.nd rfl rfl (sw_true rfl rfl rfl (by decide +kernel)) (pi_listK (K := K) (pv 4)) (blkOk_by (own := [("_law_move", 5), ("_law_fresh", 6)]) (N := ["_law_script", "_law_lane", "_law_ways", "_law_stand", "_law_pairs", "_law_move", "_law_fresh", "_law_due", "_law_handed", "_law_found", "_law_told", "_law_spot_here", "_law_word", "_law_k", "_law_again"]) (sc := defScope s_law) (by decide +kernel)) (fun _ _ _ _ _ => (pg_tup rfl (pgs_cons (pg_name (i := 5) sc_law.nd rfl (.inl rfl)) (pgs_cons (pg_name (i := 6) sc_law.nd rfl (.inl rfl)) pgs_nil)))) (fun _ _ _ _ _ => pts_nil) (fun _ _ _ _ _ => (pv 5)))
      (pss_cons (ps_set (i := 8) sc_law.nd rfl (.inl rfl) (pe_lst (pa_cons (pe_callTy call_list_of (by rfl) T.b_list (by decide +kernel) (pa_cons (pv 1) pa_nil)) (pa_cons (pe_callTy call_list_of (by rfl) T.b_list (by decide +kernel) (pa_cons (pv 2) pa_nil)) pa_nil))))
      (pss_cons (ps_set (i := 9) sc_law.nd rfl (.inl rfl) (pe_def D_allowed (hr.mono (by omega)) (pa_cons (pe_ix (r := rIxL K) ix_list (pv 8) pe_int (fun _ _ => rfl)) (pa_cons (pe_ix (r := rIxL K) ix_list (pv 8) pe_int (fun _ _ => rfl)) (pa_cons (pv 3) pa_nil)))))
      (pss_cons (ps_if (PW.pt (pw_or (pt_not (pt_val (pe_def D_lAreMoves (hr.mono (by omega)) (pa_cons (pv 9) (pa_cons (pv 7) pa_nil))))) (pw_or1 (pt_cmpR (r := rNeD K) (op_neD (hu64 hr)) (pv 8) (pe_lst (pa_cons (pv 1) (pa_cons (pv 2) pa_nil))) (nomark _))))) (pss_one (ps_ret pe_bl)) pss_nil)
      (pss_cons (ps_expr (pe_bm PySem.F.plainAttrs_list PySem.F.slot_list_append PySem.F.type_list_append mt_append (pv 9) (pa_cons (pe_tupF (pa_cons pe_str (pa_cons pe_int pa_nil))) pa_nil)))
      (pss_cons (ps_for PassesOwn.never rfl (pi_listK (K := K) (pv 4)) (pg_tup rfl (pgs_cons (pg_name (i := 5) sc_law.nd rfl (.inl rfl)) (pgs_cons (pg_name (i := 6) sc_law.nd rfl (.inl rfl)) pgs_nil))) (pss_cons (ps_set (i := 10) sc_law.nd rfl (.inl rfl) (pe_defQ D_behind (hr.mono (by omega)) (pa_cons (pe_ix (r := rIxL K) ix_list (pv 8) pe_int (fun _ _ => rfl)) (pa_cons (pe_ix (r := rIxL K) ix_list (pv 8) pe_int (fun _ _ => rfl)) (pa_cons (pv 3) (pa_cons (pv 5) pa_nil))))))
      (pss_one (ps_if (PW.pt (pw_or (pt_not (pt_val (pe_callB (r := rIsi K) (id := "isinstance") call_isi (by rfl) T.b_isinstance (by decide +kernel) (pa_cons (pv 10) (pa_cons (pe_ty (T := "tuple") T.b_tuple (by decide +kernel)) pa_nil))))) (pw_or (pt_cmpR (r := rNeD K) (op_neD (hu64 hr)) (pv 10) (pv 6) (nomark _)) (pw_or1 (pt_not (pt_val (pe_callB (cr_all rfl) (by rfl) T.b_all (by decide +kernel) (pa_cons (pe_lc (g := gName 11) (own := [("_law_spot_here", 11)]) rfl sc_law.nd (pi_tupK (K := K) (pv 10)) (blkOk_by (own := [("_law_spot_here", 11)]) (N := ["_law_script", "_law_lane", "_law_ways", "_law_stand", "_law_pairs", "_law_move", "_law_fresh", "_law_due", "_law_handed", "_law_found", "_law_told", "_law_spot_here", "_law_word", "_law_k", "_law_again"]) (sc := defScope s_law) (by decide +kernel)) (fun _ _ _ _ _ => (pg_name (i := 11) sc_law.nd rfl (.inl rfl))) (fun _ _ _ _ _ => pts_nil) (fun _ _ _ _ _ => (pe_callB (r := rIsi K) (id := "isinstance") call_isi (by rfl) T.b_isinstance (by decide +kernel) (pa_cons (pv 11) (pa_cons (pe_ty (T := "tuple") T.b_tuple (by decide +kernel)) pa_nil))))) pa_nil)))))))) (pss_one (ps_ret pe_bl)) pss_nil))))
      (pss_cons (ps_for PassesOwn.never rfl (pi_tupK (K := K) (pe_tupF (pa_cons pe_str (pa_cons pe_str (pa_cons pe_str pa_nil))))) (pg_name (i := 12) sc_law.nd rfl (.inl rfl)) (pss_one (ps_for PassesOwn.never rfl (pi_range1 (by rfl) T.b_range (pa_cons (pe_callB call_len_seq (by rfl) T.b_len (by decide +kernel) (pa_cons (pv 2) pa_nil)) pa_nil)) (pg_name (i := 13) sc_law.nd rfl (.inl rfl)) (pss_one (ps_if (PW.pt (pw_and (pt_cmpR (r := rNotInD K) (op_notInD (hu65 hr)) (pe_tupF (pa_cons (pv 12) (pa_cons (pv 13) pa_nil))) (pv 7) (by rfl)) (pw_and1 (pt_not (pt_val (pe_def D_lRefused (hr.mono (by omega)) (pa_cons (pe_ix (r := rIxL K) ix_list (pv 8) pe_int (fun _ _ => rfl)) (pa_cons (pe_ix (r := rIxL K) ix_list (pv 8) pe_int (fun _ _ => rfl)) (pa_cons (pv 3) (pa_cons (pe_tupF (pa_cons (pv 12) (pa_cons (pv 13) pa_nil))) pa_nil)))))))))) (pss_one (ps_ret pe_bl)) pss_nil)))))
      (pss_cons (ps_if (pt_not (pt_val (pe_def D_lRefused (hr.mono (by omega)) (pa_cons (pe_ix (r := rIxL K) ix_list (pv 8) pe_int (fun _ _ => rfl)) (pa_cons (pe_ix (r := rIxL K) ix_list (pv 8) pe_int (fun _ _ => rfl)) (pa_cons (pv 3) (pa_cons (pe_def D_lOdd (hr.mono (by omega)) (pa_cons (pe_def D_lCellAt (hr.mono (by omega)) (pa_cons (pv 0) (pa_cons pe_int pa_nil))) (pa_cons (pe_callB call_len_seq (by rfl) T.b_len (by decide +kernel) (pa_cons (pv 2) pa_nil)) pa_nil))) pa_nil))))))) (pss_one (ps_ret pe_bl)) pss_nil)
      (pss_cons (ps_set (i := 14) sc_law.nd rfl (.inl rfl) (pe_def D_allowed (hr.mono (by omega)) (pa_cons (pe_ix (r := rIxL K) ix_list (pv 8) pe_int (fun _ _ => rfl)) (pa_cons (pe_ix (r := rIxL K) ix_list (pv 8) pe_int (fun _ _ => rfl)) (pa_cons (pv 3) pa_nil)))))
      (pss_one (ps_ret (pe_and (pe_def D_lAreMoves (hr.mono (by omega)) (pa_cons (pv 14) (pa_cons (pv 7) pa_nil))) (pe_and (pe_cmpR op_eq (pe_callB call_len_seq (by rfl) T.b_len (by decide +kernel) (pa_cons (pv 9) pa_nil)) (pe_op op_add (pe_callB call_len_seq (by rfl) T.b_len (by decide +kernel) (pa_cons (pv 7) pa_nil)) pe_int) (nomark _)) (pe_one (pe_cmpR (r := rEqD K) (op_eqD (hu64 hr)) (pv 8) (pe_lst (pa_cons (pv 1) (pa_cons (pv 2) pa_nil))) (nomark _)))))))))))))))))), ?_⟩
  refine ⟨.ref a, rfl, a, ns, rfl, hA, fun H1 p0 a1 b1 c1 ln wy S s1 tp f1 f2 e1 e2 nab hS ok sm => ⟨p0, _, rfl, tp.sq, rfl, _, _, rfl, _, _, rfl, _, _, rfl, rfl, ?_⟩⟩
  have hL : LaneAt K H1 a1 ln := .inl (.inl e1)
  have hW : WaysAt K H1 b1 wy := .inl (.inl e2)
  have hA1 := s1.seq hA
  have l12 := allowed_len ok
  have lal : (allPairs ln wy S).length = (allowed ln wy S).length := (List.length_map ..).symm
  -- the law's own moves
  refine ⟨.ref a1, rfl, .ref b1, rfl, .ref c1, rfl, a1, b1, c1, ln, wy, S, rfl, hL, hW, hS, ok, fun H2 ml ms s2 hml eml iml => ?_⟩
  have lm : ms.length = (allPairs ln wy S).length := by rw [iml.length, List.length_map]
  refine ⟨.ref ml, rfl, ml, rfl, ⟨_, .inl (.inl eml)⟩, fun D1 hD1 => ?_⟩
  refine lc_map (walk_list (K := K) (a := ml) (xs := ms)) (fun i y G' => ∃ c, (allPairs ln wy S)[i]? = some c ∧ Im G' y (dM c.1)) (fun i y G' G'' tt e => by obtain ⟨c, h1, h2⟩ := e; exact ⟨c, h1, h2.mono tt⟩) (Nat.lt_of_le_of_lt (by omega : _ ≤ 12) (by decide)) hD1 (fun G' s => .inl (.inl (s _ _ eml)))
    (fun i x G4 G5 k hi s6 y hk => ?_) (fun H3 ys s3 e3 l3 el => ?_)
  · obtain ⟨rfl, ex⟩ := y
    obtain ⟨dd, edd, imd⟩ := iml.getV ex
    rw [List.getElem?_map] at edd
    cases ec : (allPairs ln wy S)[i]? with
    | none => rw [ec] at edd; cases edd
    | some c =>
      rw [ec] at edd
      cases edd
      obtain ⟨pt, u1, u2, rfl, tt, i1, i2⟩ := im_pair (Im.mono (Ti.of s6) imd)
      exact ⟨pt, _, rfl, tt.sq, rfl, _, _, rfl, _, _, rfl, rfl, rfl, u1, rfl, hk u1 G5 (Same.refl _) ⟨c, ec, i1⟩⟩
  have ib : ImAll H3 ys ((allowed ln wy S).map dM) := by
    refine ImAll.of (by rw [l3, lm, List.length_map, lal]) fun i v dv hv hdv => ?_
    obtain ⟨c, hc, him⟩ := el i v hv
    rw [allowed, List.map_map, List.getElem?_map, hc] at hdv
    cases hdv
    exact him
  have s13 := s2.trans s3
  -- what is handed in
  refine ⟨.ref a1, rfl, a1, _, rfl, .inl (s13.seq hL), fun h0 hh0 => ⟨.ref b1, rfl, b1, _, rfl, .inl ((s13.trans (same_new hh0)).seq hW), fun h1 hh1 => ⟨two_size, fun hd2 hhd => ?_⟩⟩⟩
  have t0 := same_new (o := .lst (ln.map V.int)) hh0
  have t1 := same_new (o := .lst (wy.map fun b => V.str (wS b))) hh1
  have t2 := same_new (o := .lst [.ref h0, .ref h1]) hhd
  have s4 := (t0.trans t1).trans t2
  have q0 : LaneAt K (upd (upd (upd H3 h0 (.lst (ln.map V.int))) h1 (.lst (wy.map fun b => V.str (wS b)))) hd2 (.lst [.ref h0, .ref h1])) h0 ln := .inl (.inl (t2 _ _ (t1 _ _ upd_same)))
  have q1 : WaysAt K (upd (upd (upd H3 h0 (.lst (ln.map V.int))) h1 (.lst (wy.map fun b => V.str (wS b)))) hd2 (.lst [.ref h0, .ref h1])) h1 wy := .inl (.inl (t2 _ _ upd_same))
  have q2 : SqL K (upd (upd (upd H3 h0 (.lst (ln.map V.int))) h1 (.lst (wy.map fun b => V.str (wS b)))) hd2 (.lst [.ref h0, .ref h1])) hd2 [.ref h0, .ref h1] := .inl (.inl upd_same)
  generalize upd (upd (upd H3 h0 (.lst (ln.map V.int))) h1 (.lst (wy.map fun b => V.str (wS b)))) hd2 (.lst [.ref h0, .ref h1]) = G at s4 q0 q1 q2
  clear t0 t1 t2
  have s14 := s13.trans s4
  have hL4 := s14.seq hL
  have hW4 := s14.seq hW
  have hS4 := hS.mono (Ti.of s14)
  have ems := s3.trans s4 _ _ eml
  have ims := iml.mono (Ti.of (s3.trans s4))
  have edu := s4 _ _ e3
  have idu := ib.mono (Ti.of s4)
  -- what is allowed
  refine ⟨.ref hd2, rfl, hd2, _, 0, _, rfl, rfl, q2, at0, .ref hd2, rfl, hd2, _, 1, _, rfl, rfl, q2, at1, .ref c1, rfl, h0, h1, c1, ln, wy, S, rfl, q0, q1, hS4, ok, fun G1 p xs u1 hp ep ip => ?_⟩
  refine ⟨.ref p, rfl, .ref D1, rfl, p, D1, xs, ys, allowed ln wy S, rfl, ⟨ep, ip⟩, ⟨u1 _ _ edu, idu.mono (Ti.of u1)⟩, l12, fun G2 u2 => ⟨_, rfl, iteF' rfl ?_⟩⟩
  have u12 := u1.trans u2
  refine ⟨.ref hd2, rfl, .ref a1, rfl, .ref b1, rfl, two_size, fun x1 hx1 => ?_⟩
  have u3 := same_new (o := .lst [.ref a1, .ref b1]) hx1
  have u13 := u12.trans u3
  refine ne_same (d := dHand ln wy) (dp_hand (u13.seq q2) (u13.seq q0) (u13.seq q1)) (dp_hand (.inl (.inl upd_same)) (u13.seq hL4) (u13.seq hW4)) (shaped_hand ln wy) (iteF' rfl ?_)
  have ep3 := (u2.trans u3) _ _ ep
  generalize upd G2 x1 (.lst [.ref a1, .ref b1]) = G3 at u3 u13 ep3
  refine ⟨.ref p, rfl, .inl ⟨rfl, _, .inl (.inl ep3)⟩, two_size, nT_q fun G4 mp u4 te1 => ?_⟩
  have lxs : xs.length = (allowed ln wy S).length := by rw [ip.length, List.length_map]
  have ep4 := u4 _ _ ep3
  refine ⟨p, xs, .ref mp, rfl, rfl, ep4, Nat.lt_of_le_of_lt (by omega : _ ≤ 12) (by decide), ?_⟩
  have v1 := same_mut (o := .lst (xs ++ [.ref mp])) (u13.trans u4) hp
  have epp := upd_same (H := G4) (a := p) (o := .lst (xs ++ [.ref mp]))
  generalize upd G4 p (.lst (xs ++ [.ref mp])) = G5 at v1 epp
  have hA5 := (s14.trans v1).seq hA1
  have eml5 := v1 _ _ ems
  have ims5 := ims.mono (Ti.of v1)
  have edu5 := v1 _ _ edu
  have idu5 := idu.mono (Ti.of v1)
  have q05 := v1.seq q0
  have q15 := v1.seq q1
  have q25 := v1.seq q2
  have hL5 := v1.seq hL4
  have hW5 := v1.seq hW4
  have hS5 := hS4.mono (Ti.of v1)
  clear u1 u2 u3 u4 u12 u13 v1 ep3 ep4
  -- behind each of them
  refine ⟨.ref ml, rfl, ml, rfl, ⟨_, .inl (.inl eml5)⟩, ?_⟩
  refine for_it (walk_list (K := K) (a := ml) (xs := ms)) (fun i σ G' => Same G5 G' ∧ ∃ y5 y6 y10, σ = [some (.ref a), some (.ref a1), some (.ref b1), some (.ref c1), some (.ref ml), y5, y6, some (.ref D1), some (.ref hd2), some (.ref p), y10, none, none, none, none])
    ⟨Same.refl _, none, none, none, rfl⟩ (fun i σ G' _ p => .inl (.inl (p.1 _ _ eml5))) (fun i x σ G6 G7 hi p y => ?_) (fun σ G6 p => ?_)
  · obtain ⟨s6, y5, y6, y10, rfl⟩ := p
    obtain ⟨rfl, ex⟩ := y
    obtain ⟨dd, edd, imd⟩ := ims5.getV ex
    rw [List.getElem?_map] at edd
    cases ec : (allPairs ln wy S)[i]? with
    | none => rw [ec] at edd; cases edd
    | some c =>
    rw [ec] at edd
    cases edd
    obtain ⟨pt, v1, v2, rfl, tt, i1, i2⟩ := im_pair (Im.mono (Ti.of s6) imd)
    obtain ⟨pm, rfl, hm⟩ := im_move i1
    obtain ⟨ck, cc⟩ := pair_in (mem_of_some ec)
    refine ⟨pt, _, rfl, tt.sq, rfl, _, _, rfl, _, _, rfl, rfl, ?_⟩
    refine ⟨.ref hd2, rfl, hd2, _, 0, _, rfl, rfl, s6.seq q25, at0, .ref hd2, rfl, hd2, _, 1, _, rfl, rfl, s6.seq q25, at1, .ref c1, rfl, .ref pm, rfl, h0, h1, c1, .ref pm, ln, wy, S, rfl, s6.seq q05, s6.seq q15, hS5.mono (Ti.of s6), ok, .inl ⟨pm, c.1, c.2, rfl, hm, ck, cc, fun G8 z8 s8 h8 => ?_⟩⟩
    obtain ⟨us, ⟨o8, eo8, z8'⟩, iu⟩ := id h8
    have s68 := s6.trans s8
    refine ⟨.ref z8, rfl, .ref z8, .ty "tuple", .type "tuple", .type "tuple", true, rfl, .ty _, .fTuple eo8, by rfl, _, rfl, iteF' rfl ?_⟩
    refine ⟨.ref z8, rfl, v2, rfl, ?_⟩
    refine ne_same (d := dSt (S.set c.1.2 c.2)) (Im.dp h8.im) (Im.dp (i2.mono (Ti.of s8))) (shaped_stand _) (iteF' rfl ?_)
    refine ⟨.ref z8, rfl, z8, rfl, ⟨us, (show TupAt G8 z8 us from ⟨o8, eo8, z8'⟩).sq⟩, fun D hD => ?_⟩
    have lus : us.length ≤ 6 := by
      have h1 := StandAt.len iu
      have h2 := ok.len
      have h3 := ok.most
      rw [List.length_set] at h1
      omega
    refine lc_map (walk_tup (K := K) (a := z8) (xs := us)) (fun _ y _ => y = .bl true) (fun _ _ _ _ _ e => e) (Nat.lt_of_le_of_lt lus (by decide)) hD (fun H' s => (Ti.of s _ _ (show TupAt G8 z8 us from ⟨o8, eo8, z8'⟩)).sq) (fun i x B1 B2 k hi s9 y hk => ?_) (fun B1 bs s9 e9 l9 el => ?_)
    · obtain ⟨rfl, ex⟩ := y
      obtain ⟨pj, sj, rfl, esj, hsj⟩ := stand_getV iu ex
      obtain ⟨oj, eoj, _⟩ := id (Ti.of s9 _ _ hsj)
      exact ⟨rfl, .ref pj, rfl, .ref pj, .ty "tuple", .type "tuple", .type "tuple", true, rfl, .ty _, .fTuple eoj, by rfl, hk _ _ (Same.refl _) rfl⟩
    have e := bls_of (f := fun _ => true) l9 el
    subst e
    refine ⟨D, _, rfl, .inl (.inl e9), _, rfl, ?_⟩
    rw [all_true (fun _ _ => rfl)]
    exact iteF ⟨s68.trans s9, _, _, _, rfl⟩
  obtain ⟨s6, y5, y6, y10, rfl⟩ := p
  -- all other moves of the trains
  have zw : wy.length = S.length := ok.len.symm
  refine ⟨szK (by decide), nT_q fun G7 tw s7 qw => ⟨tw, rfl, ⟨_, qw.sq⟩, ?_⟩⟩
  have s57 := s6.trans s7
  refine for_it (walk_tup (K := K) (a := tw) (xs := [V.str (dW .go), .str (dW .aside), .str (dW .on)])) (fun i σ G' => Same G7 G' ∧ ∃ y12 y13, σ = [some (.ref a), some (.ref a1), some (.ref b1), some (.ref c1), some (.ref ml), y5, y6, some (.ref D1), some (.ref hd2), some (.ref p), y10, none, y12, y13, none])
    ⟨Same.refl _, none, none, rfl⟩ (fun i σ G' _ p => (Ti.of p.1 _ _ qw).sq) (fun i x σ G8 G9 hi p y => ?_) (fun σ G8 p => ?_)
  · obtain ⟨s8, y12, y13, rfl⟩ := p
    obtain ⟨rfl, ex⟩ := y
    obtain ⟨wd, rfl⟩ : ∃ wd : Wd, x = .str (dW wd) := by
      have hm := mem_of_some ex
      simp only [List.mem_cons, List.not_mem_nil, or_false] at hm
      rcases hm with e | e | e
      · exact ⟨.go, e⟩
      · exact ⟨.aside, e⟩
      · exact ⟨.on, e⟩
    have s58 := s57.trans s8
    refine ⟨.ref b1, rfl, b1, _, rfl, .inl (s58.seq hW5), _, rfl, by omega, by rw [List.length_map]; have := ok.most; omega, ?_⟩
    refine for_it (walk_range (lo := 0) (n := (((wy.map fun b => V.str (wS b)).length : Nat) : Int).toNat)) (fun j σ G' => Same G9 G' ∧ ∃ y13, σ = [some (.ref a), some (.ref a1), some (.ref b1), some (.ref c1), some (.ref ml), y5, y6, some (.ref D1), some (.ref hd2), some (.ref p), y10, none, some (.str (dW wd)), y13, none])
      ⟨Same.refl _, _, rfl⟩ (fun _ _ _ _ _ => trivial) (fun j x σ G10 G11 hj p y => ?_) (fun σ G10 p => ?_)
    · obtain ⟨s10, y13', rfl⟩ := p
      obtain ⟨rfl, rfl⟩ := y
      have hj2 : j < S.length := by
        rw [List.length_map] at hj
        omega
      have e0 : (0 : Int) + (j : Int) = (j : Int) := by omega
      refine ⟨.str (dW wd), rfl, .int ((0 : Int) + (j : Int)), rfl, two_size, nT_q fun G12 t12 s12 q12 => ?_⟩
      rw [e0] at q12
      have s5C := (s58.trans s10).trans s12
      have edC := s5C _ _ edu5
      have idC := idu5.mono (Ti.of s5C)
      have hm : MoveAt G12 t12 (wd, j) := q12
      refine ⟨.ref D1, rfl, dM (wd, j), (allowed ln wy S).map dM, hm.im.dp, .lst (.inl (.inl edC)) idC.dp, shaped_move _, shaped_moves _, _, rfl, ?_⟩
      rw [any_move]
      by_cases hin : (wd, j) ∈ allowed ln wy S
      · rw [decide_eq_true hin]
        exact iteF' rfl (iteF ⟨((s10.trans s12)), _, rfl⟩)
      rw [decide_eq_false hin]
      refine iteT' rfl ?_
      refine ⟨.ref hd2, rfl, hd2, _, 0, _, rfl, rfl, s5C.seq q25, at0, .ref hd2, rfl, hd2, _, 1, _, rfl, rfl, s5C.seq q25, at1, .ref c1, rfl, .str (dW wd), rfl, .int ((0 : Int) + (j : Int)), rfl, two_size, nT_q fun G13 t13 s13 q13 => ?_⟩
      rw [e0] at q13
      have s5D := s5C.trans s13
      refine ⟨h0, h1, c1, .ref t13, ln, wy, S, rfl, s5D.seq q05, s5D.seq q15, hS5.mono (Ti.of s5D), ok, .none (k := j) q13 hj2 (shaped_move (wd, j)) (fun w' hw e => hin (by rw [← dW_inj e]; exact hw)), fun G14 s14 => ?_⟩
      exact ⟨_, rfl, iteF' rfl ⟨(s10.trans s12).trans (s13.trans s14), _, rfl⟩⟩
    · obtain ⟨s10, y13', rfl⟩ := p
      exact ⟨s8.trans s10, _, _, rfl⟩
  obtain ⟨s8, y12, y13, rfl⟩ := p
  have s58 := s57.trans s8
  have hA8 := s58.seq hA5
  refine ⟨.ref hd2, rfl, hd2, _, 0, _, rfl, rfl, s58.seq q25, at0, .ref hd2, rfl, hd2, _, 1, _, rfl, rfl, s58.seq q25, at1, .ref c1, rfl, ?_⟩
  refine ⟨.ref a, rfl, a, ns, 16, rfl, hA8, .ref b1, rfl, b1, _, rfl, .inl (s58.seq hW5), ?_⟩
  refine ⟨cell ns 16, ln, wy, S, by rw [List.length_map, zw]; rfl, ok.len ▸ ok.one, ok.len ▸ ok.most, fun G13 od s13 no => ?_⟩
  have s5D := s58.trans s13
  refine ⟨h0, h1, c1, od, ln, wy, S, rfl, s5D.seq q05, s5D.seq q15, hS5.mono (Ti.of s5D), ok, no, fun G14 s14 => ⟨_, rfl, iteF' rfl ?_⟩⟩
  have s5E := s5D.trans s14
  refine ⟨.ref hd2, rfl, hd2, _, 0, _, rfl, rfl, s5E.seq q25, at0, .ref hd2, rfl, hd2, _, 1, _, rfl, rfl, s5E.seq q25, at1, .ref c1, rfl, h0, h1, c1, ln, wy, S, rfl, s5E.seq q05, s5E.seq q15, hS5.mono (Ti.of s5E), ok, fun G15 p2 zs s15 hp2 ep2 ip2 => ?_⟩
  have s5F := s5E.trans s15
  refine ⟨.ref p2, rfl, .ref D1, rfl, p2, D1, zs, ys, allowed ln wy S, rfl, ⟨ep2, ip2⟩, ⟨s5F _ _ edu5, idu5.mono (Ti.of s5F)⟩, l12, fun G16 s16 => ⟨_, rfl, iteT ?_⟩⟩
  have s5G := s5F.trans s16
  refine ⟨.ref p, rfl, p, _, rfl, .inl (.inl (.inl (s5G _ _ epp))), .ref D1, rfl, D1, _, rfl, .inl (.inl (.inl (s5G _ _ edu5))), _, _, rfl, rfl, ?_⟩
  refine ⟨rfl, _, rfl, iteT' (decide_eq_true ?_) ?_⟩
  · show V.int ((xs ++ [V.ref mp]).length : Nat) = V.int ((ys.length : Nat) + 1)
    rw [List.length_append, lxs, l3, lm, lal]
    rfl
  refine ⟨.ref hd2, rfl, .ref a1, rfl, .ref b1, rfl, two_size, fun x4 hx4 => ?_⟩
  have s5H := s5G.trans (same_new (o := .lst [.ref a1, .ref b1]) hx4)
  refine ⟨dHand ln wy, dHand ln wy, dp_hand (s5H.seq q25) (s5H.seq q05) (s5H.seq q15), dp_hand (.inl (.inl upd_same)) (s5H.seq hL5) (s5H.seq hW5), shaped_hand ln wy, shaped_hand ln wy, ?_⟩
  rw [eqv_self (shaped_hand ln wy)]
  exact q _
end
end Slx

set_option Elab.async false
set_option linter.all false
set_option maxRecDepth 100000
set_option maxHeartbeats 4000000
namespace Slx
open PySem PySem.Spec PyProof.Rows L2 Sl
theorem all_mk {l : PySem.W.OpenLaw} {w : World} {K : PySem.W.Frag} {h : Heap} {mg : Str → Option Value} {fa : Addr} (X : K.In h) (G : h.Ns mainGlobals mg) (hfa : mg "law" = some (.ref fa))
    {od0 an0 : Option Addr} {sl0 : Array (Option Value)} {oc0 kV0 dc0 pm0 cd0 ct0 : Value} {f0 : Addr}
    (a0 : PySem.W.nsIn K mainGlobals "is_number" = some (some (.ref f0))) (l0 : K.lookup f0 = some ⟨oc0, od0, .func (PySem.W.fnOf "is_number" "is_number" (defArgs s_isNumber) (defBody s_isNumber) (defScope s_isNumber) .none kV0 dc0 pm0 an0 cd0 ct0), sl0⟩) (c0 : PySem.W.codeIn K cd0 "is_number" = true) (k0 : PySem.W.keepIn K (.ref f0) = true)
    {od1 an1 : Option Addr} {sl1 : Array (Option Value)} {oc1 kV1 dc1 pm1 cd1 ct1 : Value} {f1 : Addr}
    (a1 : PySem.W.nsIn K mainGlobals "is_way" = some (some (.ref f1))) (l1 : K.lookup f1 = some ⟨oc1, od1, .func (PySem.W.fnOf "is_way" "is_way" (defArgs s_isWay) (defBody s_isWay) (defScope s_isWay) .none kV1 dc1 pm1 an1 cd1 ct1), sl1⟩) (c1 : PySem.W.codeIn K cd1 "is_way" = true) (k1 : PySem.W.keepIn K (.ref f1) = true)
    {od2 an2 : Option Addr} {sl2 : Array (Option Value)} {oc2 kV2 dc2 pm2 cd2 ct2 : Value} {f2 : Addr}
    (a2 : PySem.W.nsIn K mainGlobals "need_lane" = some (some (.ref f2))) (l2 : K.lookup f2 = some ⟨oc2, od2, .func (PySem.W.fnOf "need_lane" "need_lane" (defArgs s_needLane) (defBody s_needLane) (defScope s_needLane) .none kV2 dc2 pm2 an2 cd2 ct2), sl2⟩) (c2 : PySem.W.codeIn K cd2 "need_lane" = true) (k2 : PySem.W.keepIn K (.ref f2) = true)
    {od3 an3 : Option Addr} {sl3 : Array (Option Value)} {oc3 kV3 dc3 pm3 cd3 ct3 : Value} {f3 : Addr}
    (a3 : PySem.W.nsIn K mainGlobals "need_ways" = some (some (.ref f3))) (l3 : K.lookup f3 = some ⟨oc3, od3, .func (PySem.W.fnOf "need_ways" "need_ways" (defArgs s_needWays) (defBody s_needWays) (defScope s_needWays) .none kV3 dc3 pm3 an3 cd3 ct3), sl3⟩) (c3 : PySem.W.codeIn K cd3 "need_ways" = true) (k3 : PySem.W.keepIn K (.ref f3) = true)
    {od4 an4 : Option Addr} {sl4 : Array (Option Value)} {oc4 kV4 dc4 pm4 cd4 ct4 : Value} {f4 : Addr}
    (a4 : PySem.W.nsIn K mainGlobals "need_stand" = some (some (.ref f4))) (l4 : K.lookup f4 = some ⟨oc4, od4, .func (PySem.W.fnOf "need_stand" "need_stand" (defArgs s_needStand) (defBody s_needStand) (defScope s_needStand) .none kV4 dc4 pm4 an4 cd4 ct4), sl4⟩) (c4 : PySem.W.codeIn K cd4 "need_stand" = true) (k4 : PySem.W.keepIn K (.ref f4) = true)
    {od5 an5 : Option Addr} {sl5 : Array (Option Value)} {oc5 kV5 dc5 pm5 cd5 ct5 : Value} {f5 : Addr}
    (a5 : PySem.W.nsIn K mainGlobals "need_spots" = some (some (.ref f5))) (l5 : K.lookup f5 = some ⟨oc5, od5, .func (PySem.W.fnOf "need_spots" "need_spots" (defArgs s_needSpots) (defBody s_needSpots) (defScope s_needSpots) .none kV5 dc5 pm5 an5 cd5 ct5), sl5⟩) (c5 : PySem.W.codeIn K cd5 "need_spots" = true) (k5 : PySem.W.keepIn K (.ref f5) = true)
    {od6 an6 : Option Addr} {sl6 : Array (Option Value)} {oc6 kV6 dc6 pm6 cd6 ct6 : Value} {f6 : Addr}
    (a6 : PySem.W.nsIn K mainGlobals "is_spot" = some (some (.ref f6))) (l6 : K.lookup f6 = some ⟨oc6, od6, .func (PySem.W.fnOf "is_spot" "is_spot" (defArgs s_isSpot) (defBody s_isSpot) (defScope s_isSpot) .none kV6 dc6 pm6 an6 cd6 ct6), sl6⟩) (c6 : PySem.W.codeIn K cd6 "is_spot" = true) (k6 : PySem.W.keepIn K (.ref f6) = true)
    {od7 an7 : Option Addr} {sl7 : Array (Option Value)} {oc7 kV7 dc7 pm7 cd7 ct7 : Value} {f7 : Addr}
    (a7 : PySem.W.nsIn K mainGlobals "most_at" = some (some (.ref f7))) (l7 : K.lookup f7 = some ⟨oc7, od7, .func (PySem.W.fnOf "most_at" "most_at" (defArgs s_mostAt) (defBody s_mostAt) (defScope s_mostAt) .none kV7 dc7 pm7 an7 cd7 ct7), sl7⟩) (c7 : PySem.W.codeIn K cd7 "most_at" = true) (k7 : PySem.W.keepIn K (.ref f7) = true)
    {od8 an8 : Option Addr} {sl8 : Array (Option Value)} {oc8 kV8 dc8 pm8 cd8 ct8 : Value} {f8 : Addr}
    (a8 : PySem.W.nsIn K mainGlobals "allowed" = some (some (.ref f8))) (l8 : K.lookup f8 = some ⟨oc8, od8, .func (PySem.W.fnOf "allowed" "allowed" (defArgs s_allowed) (defBody s_allowed) (defScope s_allowed) .none kV8 dc8 pm8 an8 cd8 ct8), sl8⟩) (c8 : PySem.W.codeIn K cd8 "allowed" = true) (k8 : PySem.W.keepIn K (.ref f8) = true)
    {od9 an9 : Option Addr} {sl9 : Array (Option Value)} {oc9 kV9 dc9 pm9 cd9 ct9 : Value} {f9 : Addr}
    (a9 : PySem.W.nsIn K mainGlobals "behind" = some (some (.ref f9))) (l9 : K.lookup f9 = some ⟨oc9, od9, .func (PySem.W.fnOf "behind" "behind" (defArgs s_behind) (defBody s_behind) (defScope s_behind) .none kV9 dc9 pm9 an9 cd9 ct9), sl9⟩) (c9 : PySem.W.codeIn K cd9 "behind" = true) (k9 : PySem.W.keepIn K (.ref f9) = true)
    {od10 an10 : Option Addr} {sl10 : Array (Option Value)} {oc10 kV10 dc10 pm10 cd10 ct10 : Value} {f10 : Addr}
    (a10 : PySem.W.nsIn K mainGlobals "is_move" = some (some (.ref f10))) (l10 : K.lookup f10 = some ⟨oc10, od10, .func (PySem.W.fnOf "is_move" "is_move" (defArgs s_isMove) (defBody s_isMove) (defScope s_isMove) .none kV10 dc10 pm10 an10 cd10 ct10), sl10⟩) (c10 : PySem.W.codeIn K cd10 "is_move" = true) (k10 : PySem.W.keepIn K (.ref f10) = true)
    {od11 an11 : Option Addr} {sl11 : Array (Option Value)} {oc11 kV11 dc11 pm11 cd11 ct11 : Value} {f11 : Addr}
    (a11 : PySem.W.nsIn K mainGlobals "choices" = some (some (.ref f11))) (l11 : K.lookup f11 = some ⟨oc11, od11, .func (PySem.W.fnOf "choices" "choices" (defArgs s_choices) (defBody s_choices) (defScope s_choices) .none kV11 dc11 pm11 an11 cd11 ct11), sl11⟩) (c11 : PySem.W.codeIn K cd11 "choices" = true) (k11 : PySem.W.keepIn K (.ref f11) = true)
    {od12 an12 : Option Addr} {sl12 : Array (Option Value)} {oc12 kV12 dc12 pm12 cd12 ct12 : Value} {f12 : Addr}
    (a12 : PySem.W.nsIn K mainGlobals "tries" = some (some (.ref f12))) (l12 : K.lookup f12 = some ⟨oc12, od12, .func (PySem.W.fnOf "tries" "tries" (defArgs s_tries) (defBody s_tries) (defScope s_tries) .none kV12 dc12 pm12 an12 cd12 ct12), sl12⟩) (c12 : PySem.W.codeIn K cd12 "tries" = true) (k12 : PySem.W.keepIn K (.ref f12) = true)
    {od13 an13 : Option Addr} {sl13 : Array (Option Value)} {oc13 kV13 dc13 pm13 cd13 ct13 : Value} {f13 : Addr}
    (a13 : PySem.W.nsIn K mainGlobals "spot_ahead" = some (some (.ref f13))) (l13 : K.lookup f13 = some ⟨oc13, od13, .func (PySem.W.fnOf "spot_ahead" "spot_ahead" (defArgs s_spotAhead) (defBody s_spotAhead) (defScope s_spotAhead) .none kV13 dc13 pm13 an13 cd13 ct13), sl13⟩) (c13 : PySem.W.codeIn K cd13 "spot_ahead" = true) (k13 : PySem.W.keepIn K (.ref f13) = true)
    {od14 an14 : Option Addr} {sl14 : Array (Option Value)} {oc14 kV14 dc14 pm14 cd14 ct14 : Value} {f14 : Addr}
    (a14 : PySem.W.nsIn K mainGlobals "has_room" = some (some (.ref f14))) (l14 : K.lookup f14 = some ⟨oc14, od14, .func (PySem.W.fnOf "has_room" "has_room" (defArgs s_hasRoom) (defBody s_hasRoom) (defScope s_hasRoom) .none kV14 dc14 pm14 an14 cd14 ct14), sl14⟩) (c14 : PySem.W.codeIn K cd14 "has_room" = true) (k14 : PySem.W.keepIn K (.ref f14) = true)
    {od15 an15 : Option Addr} {sl15 : Array (Option Value)} {oc15 kV15 dc15 pm15 cd15 ct15 : Value} {f15 : Addr}
    (a15 : PySem.W.nsIn K mainGlobals "_law_cell_at" = some (some (.ref f15))) (l15 : K.lookup f15 = some ⟨oc15, od15, .func (PySem.W.fnOf "_law_cell_at" "_law_cell_at" (defArgs s_lCellAt) (defBody s_lCellAt) (defScope s_lCellAt) .none kV15 dc15 pm15 an15 cd15 ct15), sl15⟩) (c15 : PySem.W.codeIn K cd15 "_law_cell_at" = true) (k15 : PySem.W.keepIn K (.ref f15) = true)
    {od16 an16 : Option Addr} {sl16 : Array (Option Value)} {oc16 kV16 dc16 pm16 cd16 ct16 : Value} {f16 : Addr}
    (a16 : PySem.W.nsIn K mainGlobals "_law_whole" = some (some (.ref f16))) (l16 : K.lookup f16 = some ⟨oc16, od16, .func (PySem.W.fnOf "_law_whole" "_law_whole" (defArgs s_lWhole) (defBody s_lWhole) (defScope s_lWhole) .none kV16 dc16 pm16 an16 cd16 ct16), sl16⟩) (c16 : PySem.W.codeIn K cd16 "_law_whole" = true) (k16 : PySem.W.keepIn K (.ref f16) = true)
    {od17 an17 : Option Addr} {sl17 : Array (Option Value)} {oc17 kV17 dc17 pm17 cd17 ct17 : Value} {f17 : Addr}
    (a17 : PySem.W.nsIn K mainGlobals "_law_mixed" = some (some (.ref f17))) (l17 : K.lookup f17 = some ⟨oc17, od17, .func (PySem.W.fnOf "_law_mixed" "_law_mixed" (defArgs s_lMixed) (defBody s_lMixed) (defScope s_lMixed) .none kV17 dc17 pm17 an17 cd17 ct17), sl17⟩) (c17 : PySem.W.codeIn K cd17 "_law_mixed" = true) (k17 : PySem.W.keepIn K (.ref f17) = true)
    {od18 an18 : Option Addr} {sl18 : Array (Option Value)} {oc18 kV18 dc18 pm18 cd18 ct18 : Value} {f18 : Addr}
    (a18 : PySem.W.nsIn K mainGlobals "_law_spot" = some (some (.ref f18))) (l18 : K.lookup f18 = some ⟨oc18, od18, .func (PySem.W.fnOf "_law_spot" "_law_spot" (defArgs s_lSpot) (defBody s_lSpot) (defScope s_lSpot) .none kV18 dc18 pm18 an18 cd18 ct18), sl18⟩) (c18 : PySem.W.codeIn K cd18 "_law_spot" = true) (k18 : PySem.W.keepIn K (.ref f18) = true)
    {od19 an19 : Option Addr} {sl19 : Array (Option Value)} {oc19 kV19 dc19 pm19 cd19 ct19 : Value} {f19 : Addr}
    (a19 : PySem.W.nsIn K mainGlobals "_law_built" = some (some (.ref f19))) (l19 : K.lookup f19 = some ⟨oc19, od19, .func (PySem.W.fnOf "_law_built" "_law_built" (defArgs s_lBuilt) (defBody s_lBuilt) (defScope s_lBuilt) .none kV19 dc19 pm19 an19 cd19 ct19), sl19⟩) (c19 : PySem.W.codeIn K cd19 "_law_built" = true) (k19 : PySem.W.keepIn K (.ref f19) = true)
    {od20 an20 : Option Addr} {sl20 : Array (Option Value)} {oc20 kV20 dc20 pm20 cd20 ct20 : Value} {f20 : Addr}
    (a20 : PySem.W.nsIn K mainGlobals "_law_on" = some (some (.ref f20))) (l20 : K.lookup f20 = some ⟨oc20, od20, .func (PySem.W.fnOf "_law_on" "_law_on" (defArgs s_lOn) (defBody s_lOn) (defScope s_lOn) .none kV20 dc20 pm20 an20 cd20 ct20), sl20⟩) (c20 : PySem.W.codeIn K cd20 "_law_on" = true) (k20 : PySem.W.keepIn K (.ref f20) = true)
    {od21 an21 : Option Addr} {sl21 : Array (Option Value)} {oc21 kV21 dc21 pm21 cd21 ct21 : Value} {f21 : Addr}
    (a21 : PySem.W.nsIn K mainGlobals "_law_moves" = some (some (.ref f21))) (l21 : K.lookup f21 = some ⟨oc21, od21, .func (PySem.W.fnOf "_law_moves" "_law_moves" (defArgs s_lMoves) (defBody s_lMoves) (defScope s_lMoves) .none kV21 dc21 pm21 an21 cd21 ct21), sl21⟩) (c21 : PySem.W.codeIn K cd21 "_law_moves" = true) (k21 : PySem.W.keepIn K (.ref f21) = true)
    {od22 an22 : Option Addr} {sl22 : Array (Option Value)} {oc22 kV22 dc22 pm22 cd22 ct22 : Value} {f22 : Addr}
    (a22 : PySem.W.nsIn K mainGlobals "_law_kind" = some (some (.ref f22))) (l22 : K.lookup f22 = some ⟨oc22, od22, .func (PySem.W.fnOf "_law_kind" "_law_kind" (defArgs s_lKind) (defBody s_lKind) (defScope s_lKind) .none kV22 dc22 pm22 an22 cd22 ct22), sl22⟩) (c22 : PySem.W.codeIn K cd22 "_law_kind" = true) (k22 : PySem.W.keepIn K (.ref f22) = true)
    {od23 an23 : Option Addr} {sl23 : Array (Option Value)} {oc23 kV23 dc23 pm23 cd23 ct23 : Value} {f23 : Addr}
    (a23 : PySem.W.nsIn K mainGlobals "_law_refused" = some (some (.ref f23))) (l23 : K.lookup f23 = some ⟨oc23, od23, .func (PySem.W.fnOf "_law_refused" "_law_refused" (defArgs s_lRefused) (defBody s_lRefused) (defScope s_lRefused) .none kV23 dc23 pm23 an23 cd23 ct23), sl23⟩) (c23 : PySem.W.codeIn K cd23 "_law_refused" = true) (k23 : PySem.W.keepIn K (.ref f23) = true)
    {od24 an24 : Option Addr} {sl24 : Array (Option Value)} {oc24 kV24 dc24 pm24 cd24 ct24 : Value} {f24 : Addr}
    (a24 : PySem.W.nsIn K mainGlobals "_law_are_moves" = some (some (.ref f24))) (l24 : K.lookup f24 = some ⟨oc24, od24, .func (PySem.W.fnOf "_law_are_moves" "_law_are_moves" (defArgs s_lAreMoves) (defBody s_lAreMoves) (defScope s_lAreMoves) .none kV24 dc24 pm24 an24 cd24 ct24), sl24⟩) (c24 : PySem.W.codeIn K cd24 "_law_are_moves" = true) (k24 : PySem.W.keepIn K (.ref f24) = true)
    {od25 an25 : Option Addr} {sl25 : Array (Option Value)} {oc25 kV25 dc25 pm25 cd25 ct25 : Value} {f25 : Addr}
    (a25 : PySem.W.nsIn K mainGlobals "_law_odd" = some (some (.ref f25))) (l25 : K.lookup f25 = some ⟨oc25, od25, .func (PySem.W.fnOf "_law_odd" "_law_odd" (defArgs s_lOdd) (defBody s_lOdd) (defScope s_lOdd) .none kV25 dc25 pm25 an25 cd25 ct25), sl25⟩) (c25 : PySem.W.codeIn K cd25 "_law_odd" = true) (k25 : PySem.W.keepIn K (.ref f25) = true)
    {od26 an26 : Option Addr} {sl26 : Array (Option Value)} {oc26 kV26 dc26 pm26 cd26 ct26 : Value} {f26 : Addr}
    (a26 : PySem.W.nsIn K mainGlobals "law" = some (some (.ref f26))) (l26 : K.lookup f26 = some ⟨oc26, od26, .func (PySem.W.fnOf "law" "law" (defArgs s_law) (defBody s_law) (defScope s_law) .none kV26 dc26 pm26 an26 cd26 ct26), sl26⟩) (c26 : PySem.W.codeIn K cd26 "law" = true) (k26 : PySem.W.keepIn K (.ref f26) = true)
    (z_ValueError : PySem.W.nsIn K mainGlobals "ValueError" = some none)
    (z_all : PySem.W.nsIn K mainGlobals "all" = some none)
    (z_any : PySem.W.nsIn K mainGlobals "any" = some none)
    (z_bool : PySem.W.nsIn K mainGlobals "bool" = some none)
    (z_int : PySem.W.nsIn K mainGlobals "int" = some none)
    (z_isinstance : PySem.W.nsIn K mainGlobals "isinstance" = some none)
    (z_len : PySem.W.nsIn K mainGlobals "len" = some none)
    (z_list : PySem.W.nsIn K mainGlobals "list" = some none)
    (z_range : PySem.W.nsIn K mainGlobals "range" = some none)
    (z_str : PySem.W.nsIn K mainGlobals "str" = some none)
    (z_tuple : PySem.W.nsIn K mainGlobals "tuple" = some none)
    (z_type : PySem.W.nsIn K mainGlobals "type" = some none)
    {t_MOST_PLACES : Tok} (i_MOST_PLACES : PySem.W.nsIn K mainGlobals "MOST_PLACES" = some (some (.int 8 t_MOST_PLACES)))
    {t_MOST_HELD : Tok} (i_MOST_HELD : PySem.W.nsIn K mainGlobals "MOST_HELD" = some (some (.int 4 t_MOST_HELD)))
    {t_MOST_TRAINS : Tok} (i_MOST_TRAINS : PySem.W.nsIn K mainGlobals "MOST_TRAINS" = some (some (.int 6 t_MOST_TRAINS)))
    {eLaneError eBadLane eBadWays eBadStand eNoMove eNoPlace : Addr}
    (eaL : PySem.W.nsIn K mainGlobals "LaneError" = some (some (.ref eLaneError)))
    (ehL : PySem.W.hasDictIn K eLaneError = true)
    (etL : PySem.W.typeIn K (.ref eLaneError) = some (.type "type"))
    (ebL : PySem.W.subIn K (.ref eLaneError) (.type "BaseException") = some true)
    (ehn : PySem.W.specialIn K (.builtin "object.__class__") "__get__" = some (some (.builtin "getset_descriptor.__get__")))
    (eht : PySem.W.takesIn K (.builtin "object.__class__") = some true)
    (eaBadLane : PySem.W.nsIn K mainGlobals "BadLane" = some (some (.ref eBadLane)))
    (eeBadLane : PySem.W.excIn K eBadLane [.type "ValueError", .type "Exception", .type "BaseException", .type "object"] "ValueError.__new__" = true)
    (ekBadLane : PySem.W.keepIn K (.ref eBadLane) = true)
    (ebBadLane : PySem.W.subIn K (.ref eBadLane) (.type "BaseException") = some true)
    (etBadLane : PySem.W.typeIn K (.ref eBadLane) = some (.type "type"))
    (elBadLane : PySem.W.subIn K (.ref eBadLane) (.ref eLaneError) = some true)
    (evBadLane : PySem.W.subIn K (.ref eBadLane) (.type "ValueError") = some true)
    (esBadLane : PySem.W.subIn K (.ref eBadLane) (.ref eBadLane) = some true)
    (egBadLane : PySem.W.findIn K (.ref eBadLane) "__getattribute__" = some (some (.builtin "BaseException.__getattribute__")))
    (ejBadLane : PySem.W.findIn K (.ref eBadLane) "__getattr__" = some none)
    (edBadLane : PySem.W.hasDictIn K eBadLane = true)
    (ecBadLane : PySem.W.findIn K (.ref eBadLane) "__class__" = some (some (.builtin "object.__class__")))
    (emBadLane : PySem.W.mroIn K eBadLane (.type "object") = some true)
    (eaBadWays : PySem.W.nsIn K mainGlobals "BadWays" = some (some (.ref eBadWays)))
    (eeBadWays : PySem.W.excIn K eBadWays [.type "ValueError", .type "Exception", .type "BaseException", .type "object"] "ValueError.__new__" = true)
    (ekBadWays : PySem.W.keepIn K (.ref eBadWays) = true)
    (ebBadWays : PySem.W.subIn K (.ref eBadWays) (.type "BaseException") = some true)
    (etBadWays : PySem.W.typeIn K (.ref eBadWays) = some (.type "type"))
    (elBadWays : PySem.W.subIn K (.ref eBadWays) (.ref eLaneError) = some true)
    (evBadWays : PySem.W.subIn K (.ref eBadWays) (.type "ValueError") = some true)
    (esBadWays : PySem.W.subIn K (.ref eBadWays) (.ref eBadWays) = some true)
    (egBadWays : PySem.W.findIn K (.ref eBadWays) "__getattribute__" = some (some (.builtin "BaseException.__getattribute__")))
    (ejBadWays : PySem.W.findIn K (.ref eBadWays) "__getattr__" = some none)
    (edBadWays : PySem.W.hasDictIn K eBadWays = true)
    (ecBadWays : PySem.W.findIn K (.ref eBadWays) "__class__" = some (some (.builtin "object.__class__")))
    (emBadWays : PySem.W.mroIn K eBadWays (.type "object") = some true)
    (eaBadStand : PySem.W.nsIn K mainGlobals "BadStand" = some (some (.ref eBadStand)))
    (eeBadStand : PySem.W.excIn K eBadStand [.type "ValueError", .type "Exception", .type "BaseException", .type "object"] "ValueError.__new__" = true)
    (ekBadStand : PySem.W.keepIn K (.ref eBadStand) = true)
    (ebBadStand : PySem.W.subIn K (.ref eBadStand) (.type "BaseException") = some true)
    (etBadStand : PySem.W.typeIn K (.ref eBadStand) = some (.type "type"))
    (elBadStand : PySem.W.subIn K (.ref eBadStand) (.ref eLaneError) = some true)
    (evBadStand : PySem.W.subIn K (.ref eBadStand) (.type "ValueError") = some true)
    (esBadStand : PySem.W.subIn K (.ref eBadStand) (.ref eBadStand) = some true)
    (egBadStand : PySem.W.findIn K (.ref eBadStand) "__getattribute__" = some (some (.builtin "BaseException.__getattribute__")))
    (ejBadStand : PySem.W.findIn K (.ref eBadStand) "__getattr__" = some none)
    (edBadStand : PySem.W.hasDictIn K eBadStand = true)
    (ecBadStand : PySem.W.findIn K (.ref eBadStand) "__class__" = some (some (.builtin "object.__class__")))
    (emBadStand : PySem.W.mroIn K eBadStand (.type "object") = some true)
    (eaNoMove : PySem.W.nsIn K mainGlobals "NoMove" = some (some (.ref eNoMove)))
    (eeNoMove : PySem.W.excIn K eNoMove [.type "ValueError", .type "Exception", .type "BaseException", .type "object"] "ValueError.__new__" = true)
    (ekNoMove : PySem.W.keepIn K (.ref eNoMove) = true)
    (ebNoMove : PySem.W.subIn K (.ref eNoMove) (.type "BaseException") = some true)
    (etNoMove : PySem.W.typeIn K (.ref eNoMove) = some (.type "type"))
    (elNoMove : PySem.W.subIn K (.ref eNoMove) (.ref eLaneError) = some true)
    (evNoMove : PySem.W.subIn K (.ref eNoMove) (.type "ValueError") = some true)
    (esNoMove : PySem.W.subIn K (.ref eNoMove) (.ref eNoMove) = some true)
    (egNoMove : PySem.W.findIn K (.ref eNoMove) "__getattribute__" = some (some (.builtin "BaseException.__getattribute__")))
    (ejNoMove : PySem.W.findIn K (.ref eNoMove) "__getattr__" = some none)
    (edNoMove : PySem.W.hasDictIn K eNoMove = true)
    (ecNoMove : PySem.W.findIn K (.ref eNoMove) "__class__" = some (some (.builtin "object.__class__")))
    (emNoMove : PySem.W.mroIn K eNoMove (.type "object") = some true)
    (eaNoPlace : PySem.W.nsIn K mainGlobals "NoPlace" = some (some (.ref eNoPlace)))
    (eeNoPlace : PySem.W.excIn K eNoPlace [.type "ValueError", .type "Exception", .type "BaseException", .type "object"] "ValueError.__new__" = true)
    (ekNoPlace : PySem.W.keepIn K (.ref eNoPlace) = true)
    (ebNoPlace : PySem.W.subIn K (.ref eNoPlace) (.type "BaseException") = some true)
    (etNoPlace : PySem.W.typeIn K (.ref eNoPlace) = some (.type "type"))
    (elNoPlace : PySem.W.subIn K (.ref eNoPlace) (.ref eLaneError) = some true)
    (evNoPlace : PySem.W.subIn K (.ref eNoPlace) (.type "ValueError") = some true)
    (esNoPlace : PySem.W.subIn K (.ref eNoPlace) (.ref eNoPlace) = some true)
    (egNoPlace : PySem.W.findIn K (.ref eNoPlace) "__getattribute__" = some (some (.builtin "BaseException.__getattribute__")))
    (ejNoPlace : PySem.W.findIn K (.ref eNoPlace) "__getattr__" = some none)
    (edNoPlace : PySem.W.hasDictIn K eNoPlace = true)
    (ecNoPlace : PySem.W.findIn K (.ref eNoPlace) "__class__" = some (some (.builtin "object.__class__")))
    (emNoPlace : PySem.W.mroIn K eNoPlace (.type "object") = some true)
    (enBadLaneBadWays : PySem.W.subIn K (.ref eBadLane) (.ref eBadWays) = some false)
    (enBadLaneBadStand : PySem.W.subIn K (.ref eBadLane) (.ref eBadStand) = some false)
    (enBadLaneNoMove : PySem.W.subIn K (.ref eBadLane) (.ref eNoMove) = some false)
    (enBadLaneNoPlace : PySem.W.subIn K (.ref eBadLane) (.ref eNoPlace) = some false)
    (enBadWaysBadLane : PySem.W.subIn K (.ref eBadWays) (.ref eBadLane) = some false)
    (enBadWaysBadStand : PySem.W.subIn K (.ref eBadWays) (.ref eBadStand) = some false)
    (enBadWaysNoMove : PySem.W.subIn K (.ref eBadWays) (.ref eNoMove) = some false)
    (enBadWaysNoPlace : PySem.W.subIn K (.ref eBadWays) (.ref eNoPlace) = some false)
    (enBadStandBadLane : PySem.W.subIn K (.ref eBadStand) (.ref eBadLane) = some false)
    (enBadStandBadWays : PySem.W.subIn K (.ref eBadStand) (.ref eBadWays) = some false)
    (enBadStandNoMove : PySem.W.subIn K (.ref eBadStand) (.ref eNoMove) = some false)
    (enBadStandNoPlace : PySem.W.subIn K (.ref eBadStand) (.ref eNoPlace) = some false)
    (enNoMoveBadLane : PySem.W.subIn K (.ref eNoMove) (.ref eBadLane) = some false)
    (enNoMoveBadWays : PySem.W.subIn K (.ref eNoMove) (.ref eBadWays) = some false)
    (enNoMoveBadStand : PySem.W.subIn K (.ref eNoMove) (.ref eBadStand) = some false)
    (enNoMoveNoPlace : PySem.W.subIn K (.ref eNoMove) (.ref eNoPlace) = some false)
    (enNoPlaceBadLane : PySem.W.subIn K (.ref eNoPlace) (.ref eBadLane) = some false)
    (enNoPlaceBadWays : PySem.W.subIn K (.ref eNoPlace) (.ref eBadWays) = some false)
    (enNoPlaceBadStand : PySem.W.subIn K (.ref eNoPlace) (.ref eBadStand) = some false)
    (enNoPlaceNoMove : PySem.W.subIn K (.ref eNoPlace) (.ref eNoMove) = some false) :
    ∃ fd : FuncData, (∀ (s : Shared) (v : Value), BindsTo s fd ⟨[v], []⟩ [("_law_script", v)]) ∧ ∀ base : Heap, K.In base → base.Ns mainGlobals mg → FnOk l.prog w K mg base CX0 7 fa fd ["_law_script"] (spLaw K) := by
  have e := hfa.symm.trans (PySem.W.mg_of X G a26)
  cases e
  have T : Txt K mg :=
  { f_isNumber := ⟨_, _, fun_mk (st := s_isNumber) l0 c0 k0, PySem.W.mg_of X G a0, (fun_mk (st := s_isNumber) l0 c0 k0).binds (ps := ["thing", "least", "most"]) fun _ _ _ _ _ _ us hl => match us, hl with | [_, _, _], _ => rfl⟩,
    f_isWay := ⟨_, _, fun_mk (st := s_isWay) l1 c1 k1, PySem.W.mg_of X G a1, (fun_mk (st := s_isWay) l1 c1 k1).binds (ps := ["thing"]) fun _ _ _ _ _ _ us hl => match us, hl with | [_], _ => rfl⟩,
    f_needLane := ⟨_, _, fun_mk (st := s_needLane) l2 c2 k2, PySem.W.mg_of X G a2, (fun_mk (st := s_needLane) l2 c2 k2).binds (ps := ["lane"]) fun _ _ _ _ _ _ us hl => match us, hl with | [_], _ => rfl⟩,
    f_needWays := ⟨_, _, fun_mk (st := s_needWays) l3 c3 k3, PySem.W.mg_of X G a3, (fun_mk (st := s_needWays) l3 c3 k3).binds (ps := ["ways"]) fun _ _ _ _ _ _ us hl => match us, hl with | [_], _ => rfl⟩,
    f_needStand := ⟨_, _, fun_mk (st := s_needStand) l4 c4 k4, PySem.W.mg_of X G a4, (fun_mk (st := s_needStand) l4 c4 k4).binds (ps := ["lane", "ways", "stand"]) fun _ _ _ _ _ _ us hl => match us, hl with | [_, _, _], _ => rfl⟩,
    f_needSpots := ⟨_, _, fun_mk (st := s_needSpots) l5 c5 k5, PySem.W.mg_of X G a5, (fun_mk (st := s_needSpots) l5 c5 k5).binds (ps := ["lane", "stand"]) fun _ _ _ _ _ _ us hl => match us, hl with | [_, _], _ => rfl⟩,
    f_isSpot := ⟨_, _, fun_mk (st := s_isSpot) l6 c6 k6, PySem.W.mg_of X G a6, (fun_mk (st := s_isSpot) l6 c6 k6).binds (ps := ["lane", "thing"]) fun _ _ _ _ _ _ us hl => match us, hl with | [_, _], _ => rfl⟩,
    f_mostAt := ⟨_, _, fun_mk (st := s_mostAt) l7 c7 k7, PySem.W.mg_of X G a7, (fun_mk (st := s_mostAt) l7 c7 k7).binds (ps := ["lane", "spot"]) fun _ _ _ _ _ _ us hl => match us, hl with | [_, _], _ => rfl⟩,
    f_allowed := ⟨_, _, fun_mk (st := s_allowed) l8 c8 k8, PySem.W.mg_of X G a8, (fun_mk (st := s_allowed) l8 c8 k8).binds (ps := ["lane", "ways", "stand"]) fun _ _ _ _ _ _ us hl => match us, hl with | [_, _, _], _ => rfl⟩,
    f_behind := ⟨_, _, fun_mk (st := s_behind) l9 c9 k9, PySem.W.mg_of X G a9, (fun_mk (st := s_behind) l9 c9 k9).binds (ps := ["lane", "ways", "stand", "move"]) fun _ _ _ _ _ _ us hl => match us, hl with | [_, _, _, _], _ => rfl⟩,
    f_isMove := ⟨_, _, fun_mk (st := s_isMove) l10 c10 k10, PySem.W.mg_of X G a10, (fun_mk (st := s_isMove) l10 c10 k10).binds (ps := ["thing", "trains"]) fun _ _ _ _ _ _ us hl => match us, hl with | [_, _], _ => rfl⟩,
    f_choices := ⟨_, _, fun_mk (st := s_choices) l11 c11 k11, PySem.W.mg_of X G a11, (fun_mk (st := s_choices) l11 c11 k11).binds (ps := ["lane", "ways", "stand", "train"]) fun _ _ _ _ _ _ us hl => match us, hl with | [_, _, _, _], _ => rfl⟩,
    f_tries := ⟨_, _, fun_mk (st := s_tries) l12 c12 k12, PySem.W.mg_of X G a12, (fun_mk (st := s_tries) l12 c12 k12).binds (ps := ["lane", "way", "spot", "train"]) fun _ _ _ _ _ _ us hl => match us, hl with | [_, _, _, _], _ => rfl⟩,
    f_spotAhead := ⟨_, _, fun_mk (st := s_spotAhead) l13 c13 k13, PySem.W.mg_of X G a13, (fun_mk (st := s_spotAhead) l13 c13 k13).binds (ps := ["lane", "way", "place"]) fun _ _ _ _ _ _ us hl => match us, hl with | [_, _, _], _ => rfl⟩,
    f_hasRoom := ⟨_, _, fun_mk (st := s_hasRoom) l14 c14 k14, PySem.W.mg_of X G a14, (fun_mk (st := s_hasRoom) l14 c14 k14).binds (ps := ["lane", "stand", "spot"]) fun _ _ _ _ _ _ us hl => match us, hl with | [_, _, _], _ => rfl⟩,
    f_lCellAt := ⟨_, _, fun_mk (st := s_lCellAt) l15 c15 k15, PySem.W.mg_of X G a15, (fun_mk (st := s_lCellAt) l15 c15 k15).binds (ps := ["_law_script", "_law_k"]) fun _ _ _ _ _ _ us hl => match us, hl with | [_, _], _ => rfl⟩,
    f_lWhole := ⟨_, _, fun_mk (st := s_lWhole) l16 c16 k16, PySem.W.mg_of X G a16, (fun_mk (st := s_lWhole) l16 c16 k16).binds (ps := ["_law_found"]) fun _ _ _ _ _ _ us hl => match us, hl with | [_], _ => rfl⟩,
    f_lMixed := ⟨_, _, fun_mk (st := s_lMixed) l17 c17 k17, PySem.W.mg_of X G a17, (fun_mk (st := s_lMixed) l17 c17 k17).binds (ps := ["_law_script", "_law_k"]) fun _ _ _ _ _ _ us hl => match us, hl with | [_, _], _ => rfl⟩,
    f_lSpot := ⟨_, _, fun_mk (st := s_lSpot) l18 c18 k18, PySem.W.mg_of X G a18, (fun_mk (st := s_lSpot) l18 c18 k18).binds (ps := ["_law_lane", "_law_stand", "_law_cell"]) fun _ _ _ _ _ _ us hl => match us, hl with | [_, _, _], _ => rfl⟩,
    f_lBuilt := ⟨_, _, fun_mk (st := s_lBuilt) l19 c19 k19, PySem.W.mg_of X G a19, (fun_mk (st := s_lBuilt) l19 c19 k19).binds (ps := ["_law_script"]) fun _ _ _ _ _ _ us hl => match us, hl with | [_], _ => rfl⟩,
    f_lOn := ⟨_, _, fun_mk (st := s_lOn) l20 c20 k20, PySem.W.mg_of X G a20, (fun_mk (st := s_lOn) l20 c20 k20).binds (ps := ["_law_lane", "_law_way", "_law_place"]) fun _ _ _ _ _ _ us hl => match us, hl with | [_, _, _], _ => rfl⟩,
    f_lMoves := ⟨_, _, fun_mk (st := s_lMoves) l21 c21 k21, PySem.W.mg_of X G a21, (fun_mk (st := s_lMoves) l21 c21 k21).binds (ps := ["_law_lane", "_law_ways", "_law_stand"]) fun _ _ _ _ _ _ us hl => match us, hl with | [_, _, _], _ => rfl⟩,
    f_lKind := ⟨_, _, fun_mk (st := s_lKind) l22 c22 k22, PySem.W.mg_of X G a22, (fun_mk (st := s_lKind) l22 c22 k22).binds (ps := ["_law_e"]) fun _ _ _ _ _ _ us hl => match us, hl with | [_], _ => rfl⟩,
    f_lRefused := ⟨_, _, fun_mk (st := s_lRefused) l23 c23 k23, PySem.W.mg_of X G a23, (fun_mk (st := s_lRefused) l23 c23 k23).binds (ps := ["_law_lane", "_law_ways", "_law_stand", "_law_move"]) fun _ _ _ _ _ _ us hl => match us, hl with | [_, _, _, _], _ => rfl⟩,
    f_lAreMoves := ⟨_, _, fun_mk (st := s_lAreMoves) l24 c24 k24, PySem.W.mg_of X G a24, (fun_mk (st := s_lAreMoves) l24 c24 k24).binds (ps := ["_law_found", "_law_due"]) fun _ _ _ _ _ _ us hl => match us, hl with | [_, _], _ => rfl⟩,
    f_lOdd := ⟨_, _, fun_mk (st := s_lOdd) l25 c25 k25, PySem.W.mg_of X G a25, (fun_mk (st := s_lOdd) l25 c25 k25).binds (ps := ["_law_cell", "_law_trains"]) fun _ _ _ _ _ _ us hl => match us, hl with | [_, _], _ => rfl⟩,
    f_law := ⟨_, _, fun_mk (st := s_law) l26 c26 k26, PySem.W.mg_of X G a26, (fun_mk (st := s_law) l26 c26 k26).binds (ps := ["_law_script"]) fun _ _ _ _ _ _ us hl => match us, hl with | [_], _ => rfl⟩,
    b_ValueError := PySem.W.mg_none_of X G z_ValueError,
    b_all := PySem.W.mg_none_of X G z_all,
    b_any := PySem.W.mg_none_of X G z_any,
    b_bool := PySem.W.mg_none_of X G z_bool,
    b_int := PySem.W.mg_none_of X G z_int,
    b_isinstance := PySem.W.mg_none_of X G z_isinstance,
    b_len := PySem.W.mg_none_of X G z_len,
    b_list := PySem.W.mg_none_of X G z_list,
    b_range := PySem.W.mg_none_of X G z_range,
    b_str := PySem.W.mg_none_of X G z_str,
    b_tuple := PySem.W.mg_none_of X G z_tuple,
    b_type := PySem.W.mg_none_of X G z_type,
    c_MOST_PLACES := ⟨t_MOST_PLACES, PySem.W.mg_of X G i_MOST_PLACES⟩,
    c_MOST_HELD := ⟨t_MOST_HELD, PySem.W.mg_of X G i_MOST_HELD⟩,
    c_MOST_TRAINS := ⟨t_MOST_TRAINS, PySem.W.mg_of X G i_MOST_TRAINS⟩,
    errs := ⟨eLaneError, Er.at_ eBadLane eBadWays eBadStand eNoMove eNoPlace, PySem.W.mg_of X G eaL, ehL, etL, ebL, fun x => match x with | .lane => ⟨PySem.W.mg_of X G eaBadLane, eeBadLane, ekBadLane, ebBadLane, etBadLane, elBadLane, kit_val evBadLane, ⟨egBadLane, ejBadLane, ebBadLane, edBadLane, ecBadLane, ehn, eht, emBadLane⟩⟩ | .ways => ⟨PySem.W.mg_of X G eaBadWays, eeBadWays, ekBadWays, ebBadWays, etBadWays, elBadWays, kit_val evBadWays, ⟨egBadWays, ejBadWays, ebBadWays, edBadWays, ecBadWays, ehn, eht, emBadWays⟩⟩ | .stand => ⟨PySem.W.mg_of X G eaBadStand, eeBadStand, ekBadStand, ebBadStand, etBadStand, elBadStand, kit_val evBadStand, ⟨egBadStand, ejBadStand, ebBadStand, edBadStand, ecBadStand, ehn, eht, emBadStand⟩⟩ | .move => ⟨PySem.W.mg_of X G eaNoMove, eeNoMove, ekNoMove, ebNoMove, etNoMove, elNoMove, kit_val evNoMove, ⟨egNoMove, ejNoMove, ebNoMove, edNoMove, ecNoMove, ehn, eht, emNoMove⟩⟩ | .place => ⟨PySem.W.mg_of X G eaNoPlace, eeNoPlace, ekNoPlace, ebNoPlace, etNoPlace, elNoPlace, kit_val evNoPlace, ⟨egNoPlace, ejNoPlace, ebNoPlace, edNoPlace, ecNoPlace, ehn, eht, emNoPlace⟩⟩, fun x y h => match x, y, h with | .lane, .lane, h => absurd rfl h | .lane, .ways, h => kit_sub edBadWays etBadWays esBadWays enBadLaneBadWays | .lane, .stand, h => kit_sub edBadStand etBadStand esBadStand enBadLaneBadStand | .lane, .move, h => kit_sub edNoMove etNoMove esNoMove enBadLaneNoMove | .lane, .place, h => kit_sub edNoPlace etNoPlace esNoPlace enBadLaneNoPlace | .ways, .lane, h => kit_sub edBadLane etBadLane esBadLane enBadWaysBadLane | .ways, .ways, h => absurd rfl h | .ways, .stand, h => kit_sub edBadStand etBadStand esBadStand enBadWaysBadStand | .ways, .move, h => kit_sub edNoMove etNoMove esNoMove enBadWaysNoMove | .ways, .place, h => kit_sub edNoPlace etNoPlace esNoPlace enBadWaysNoPlace | .stand, .lane, h => kit_sub edBadLane etBadLane esBadLane enBadStandBadLane | .stand, .ways, h => kit_sub edBadWays etBadWays esBadWays enBadStandBadWays | .stand, .stand, h => absurd rfl h | .stand, .move, h => kit_sub edNoMove etNoMove esNoMove enBadStandNoMove | .stand, .place, h => kit_sub edNoPlace etNoPlace esNoPlace enBadStandNoPlace | .move, .lane, h => kit_sub edBadLane etBadLane esBadLane enNoMoveBadLane | .move, .ways, h => kit_sub edBadWays etBadWays esBadWays enNoMoveBadWays | .move, .stand, h => kit_sub edBadStand etBadStand esBadStand enNoMoveBadStand | .move, .move, h => absurd rfl h | .move, .place, h => kit_sub edNoPlace etNoPlace esNoPlace enNoMoveNoPlace | .place, .lane, h => kit_sub edBadLane etBadLane esBadLane enNoPlaceBadLane | .place, .ways, h => kit_sub edBadWays etBadWays esBadWays enNoPlaceBadWays | .place, .stand, h => kit_sub edBadStand etBadStand esBadStand enNoPlaceBadStand | .place, .move, h => kit_sub edNoMove etNoMove esNoMove enNoPlaceNoMove | .place, .place, h => absurd rfl h⟩ }
  exact ⟨PySem.W.fnOf "law" "law" (defArgs s_law) (defBody s_law) (defScope s_law) .none kV26 dc26 pm26 an26 cd26 ct26, fun s v => .of_eq rfl, fun base _ _ => law_fn T (fun_mk (st := s_law) l26 c26 k26)⟩
end Slx
open PySem PySem.W PyProof.Rows
set_option maxHeartbeats 0 in
theorem PySem.Challenge.cw_sidinglane_k02_moves_allowed_holds : PySem.Challenge.rw_sidinglane_k02_moves_allowed.Holds := by
  w_on; o_law; k_head; (case hw => w_witness2)
  k_fill
  refine L2.walk_of (l := PySem.Challenge.rw_sidinglane_k02_moves_allowed) (n := 63) (k := 7) (x := "_law_script") (CX := fun _ => L2.CX0) (sp := fun w => Slx.spLaw _) rfl (by decide) rfl ⟨rfl, by decide, by decide⟩ (fun w h Y => PySem.W.kIn_of Y) ?F (fun _ _ a ns hl _ hS => ⟨a, ns, rfl, hS, hl, fun _ => rfl⟩) (fun _ _ _ _ _ h => h)
  case F =>
    intro w mg fa h KX G hmg
    refine' Slx.all_mk KX G hmg ?a0 ?l0 ?c0 ?k0 ?a1 ?l1 ?c1 ?k1 ?a2 ?l2 ?c2 ?k2 ?a3 ?l3 ?c3 ?k3 ?a4 ?l4 ?c4 ?k4 ?a5 ?l5 ?c5 ?k5 ?a6 ?l6 ?c6 ?k6 ?a7 ?l7 ?c7 ?k7 ?a8 ?l8 ?c8 ?k8 ?a9 ?l9 ?c9 ?k9 ?a10 ?l10 ?c10 ?k10 ?a11 ?l11 ?c11 ?k11 ?a12 ?l12 ?c12 ?k12 ?a13 ?l13 ?c13 ?k13 ?a14 ?l14 ?c14 ?k14 ?a15 ?l15 ?c15 ?k15 ?a16 ?l16 ?c16 ?k16 ?a17 ?l17 ?c17 ?k17 ?a18 ?l18 ?c18 ?k18 ?a19 ?l19 ?c19 ?k19 ?a20 ?l20 ?c20 ?k20 ?a21 ?l21 ?c21 ?k21 ?a22 ?l22 ?c22 ?k22 ?a23 ?l23 ?c23 ?k23 ?a24 ?l24 ?c24 ?k24 ?a25 ?l25 ?c25 ?k25 ?a26 ?l26 ?c26 ?k26 ?z_ValueError ?z_all ?z_any ?z_bool ?z_int ?z_isinstance ?z_len ?z_list ?z_range ?z_str ?z_tuple ?z_type ?i_MOST_PLACES ?i_MOST_HELD ?i_MOST_TRAINS ?eaL ?ehL ?etL ?ebL ?ehn ?eht ?eaBadLane ?eeBadLane ?ekBadLane ?ebBadLane ?etBadLane ?elBadLane ?evBadLane ?esBadLane ?egBadLane ?ejBadLane ?edBadLane ?ecBadLane ?emBadLane ?eaBadWays ?eeBadWays ?ekBadWays ?ebBadWays ?etBadWays ?elBadWays ?evBadWays ?esBadWays ?egBadWays ?ejBadWays ?edBadWays ?ecBadWays ?emBadWays ?eaBadStand ?eeBadStand ?ekBadStand ?ebBadStand ?etBadStand ?elBadStand ?evBadStand ?esBadStand ?egBadStand ?ejBadStand ?edBadStand ?ecBadStand ?emBadStand ?eaNoMove ?eeNoMove ?ekNoMove ?ebNoMove ?etNoMove ?elNoMove ?evNoMove ?esNoMove ?egNoMove ?ejNoMove ?edNoMove ?ecNoMove ?emNoMove ?eaNoPlace ?eeNoPlace ?ekNoPlace ?ebNoPlace ?etNoPlace ?elNoPlace ?evNoPlace ?esNoPlace ?egNoPlace ?ejNoPlace ?edNoPlace ?ecNoPlace ?emNoPlace ?enBadLaneBadWays ?enBadLaneBadStand ?enBadLaneNoMove ?enBadLaneNoPlace ?enBadWaysBadLane ?enBadWaysBadStand ?enBadWaysNoMove ?enBadWaysNoPlace ?enBadStandBadLane ?enBadStandBadWays ?enBadStandNoMove ?enBadStandNoPlace ?enNoMoveBadLane ?enNoMoveBadWays ?enNoMoveBadStand ?enNoMoveNoPlace ?enNoPlaceBadLane ?enNoPlaceBadWays ?enNoPlaceBadStand ?enNoPlaceNoMove
    (case a0 => k_is); (case l0 => k_is); (case c0 => k_is); (case k0 => k_is); (case a1 => k_is); (case l1 => k_is); (case c1 => k_is); (case k1 => k_is); (case a2 => k_is); (case l2 => k_is); (case c2 => k_is); (case k2 => k_is); (case a3 => k_is); (case l3 => k_is); (case c3 => k_is); (case k3 => k_is); (case a4 => k_is); (case l4 => k_is); (case c4 => k_is); (case k4 => k_is); (case a5 => k_is); (case l5 => k_is); (case c5 => k_is); (case k5 => k_is); (case a6 => k_is); (case l6 => k_is); (case c6 => k_is); (case k6 => k_is); (case a7 => k_is); (case l7 => k_is); (case c7 => k_is); (case k7 => k_is); (case a8 => k_is); (case l8 => k_is); (case c8 => k_is); (case k8 => k_is); (case a9 => k_is); (case l9 => k_is); (case c9 => k_is); (case k9 => k_is); (case a10 => k_is); (case l10 => k_is); (case c10 => k_is); (case k10 => k_is); (case a11 => k_is); (case l11 => k_is); (case c11 => k_is); (case k11 => k_is); (case a12 => k_is); (case l12 => k_is); (case c12 => k_is); (case k12 => k_is); (case a13 => k_is); (case l13 => k_is); (case c13 => k_is); (case k13 => k_is); (case a14 => k_is); (case l14 => k_is); (case c14 => k_is); (case k14 => k_is); (case a15 => k_is); (case l15 => k_is); (case c15 => k_is); (case k15 => k_is); (case a16 => k_is); (case l16 => k_is); (case c16 => k_is); (case k16 => k_is); (case a17 => k_is); (case l17 => k_is); (case c17 => k_is); (case k17 => k_is); (case a18 => k_is); (case l18 => k_is); (case c18 => k_is); (case k18 => k_is); (case a19 => k_is); (case l19 => k_is); (case c19 => k_is); (case k19 => k_is); (case a20 => k_is); (case l20 => k_is); (case c20 => k_is); (case k20 => k_is); (case a21 => k_is); (case l21 => k_is); (case c21 => k_is); (case k21 => k_is); (case a22 => k_is); (case l22 => k_is); (case c22 => k_is); (case k22 => k_is); (case a23 => k_is); (case l23 => k_is); (case c23 => k_is); (case k23 => k_is); (case a24 => k_is); (case l24 => k_is); (case c24 => k_is); (case k24 => k_is); (case a25 => k_is); (case l25 => k_is); (case c25 => k_is); (case k25 => k_is); (case a26 => k_is); (case l26 => k_is); (case c26 => k_is); (case k26 => k_is); (case z_ValueError => k_is); (case z_all => k_is); (case z_any => k_is); (case z_bool => k_is); (case z_int => k_is); (case z_isinstance => k_is); (case z_len => k_is); (case z_list => k_is); (case z_range => k_is); (case z_str => k_is); (case z_tuple => k_is); (case z_type => k_is); (case i_MOST_PLACES => k_is); (case i_MOST_HELD => k_is); (case i_MOST_TRAINS => k_is); (case eaL => k_is); (case ehL => k_is); (case etL => k_is); (case ebL => k_is); (case ehn => k_is); (case eht => k_is); (case eaBadLane => k_is); (case eeBadLane => k_exc); (case ekBadLane => k_is); (case ebBadLane => k_is); (case etBadLane => k_is); (case elBadLane => k_is); (case evBadLane => k_is); (case esBadLane => k_is); (case egBadLane => k_is); (case ejBadLane => k_is); (case edBadLane => k_is); (case ecBadLane => k_is); (case emBadLane => k_is); (case eaBadWays => k_is); (case eeBadWays => k_exc); (case ekBadWays => k_is); (case ebBadWays => k_is); (case etBadWays => k_is); (case elBadWays => k_is); (case evBadWays => k_is); (case esBadWays => k_is); (case egBadWays => k_is); (case ejBadWays => k_is); (case edBadWays => k_is); (case ecBadWays => k_is); (case emBadWays => k_is); (case eaBadStand => k_is); (case eeBadStand => k_exc); (case ekBadStand => k_is); (case ebBadStand => k_is); (case etBadStand => k_is); (case elBadStand => k_is); (case evBadStand => k_is); (case esBadStand => k_is); (case egBadStand => k_is); (case ejBadStand => k_is); (case edBadStand => k_is); (case ecBadStand => k_is); (case emBadStand => k_is); (case eaNoMove => k_is); (case eeNoMove => k_exc); (case ekNoMove => k_is); (case ebNoMove => k_is); (case etNoMove => k_is); (case elNoMove => k_is); (case evNoMove => k_is); (case esNoMove => k_is); (case egNoMove => k_is); (case ejNoMove => k_is); (case edNoMove => k_is); (case ecNoMove => k_is); (case emNoMove => k_is); (case eaNoPlace => k_is); (case eeNoPlace => k_exc); (case ekNoPlace => k_is); (case ebNoPlace => k_is); (case etNoPlace => k_is); (case elNoPlace => k_is); (case evNoPlace => k_is); (case esNoPlace => k_is); (case egNoPlace => k_is); (case ejNoPlace => k_is); (case edNoPlace => k_is); (case ecNoPlace => k_is); (case emNoPlace => k_is); (case enBadLaneBadWays => k_is); (case enBadLaneBadStand => k_is); (case enBadLaneNoMove => k_is); (case enBadLaneNoPlace => k_is); (case enBadWaysBadLane => k_is); (case enBadWaysBadStand => k_is); (case enBadWaysNoMove => k_is); (case enBadWaysNoPlace => k_is); (case enBadStandBadLane => k_is); (case enBadStandBadWays => k_is); (case enBadStandNoMove => k_is); (case enBadStandNoPlace => k_is); (case enNoMoveBadLane => k_is); (case enNoMoveBadWays => k_is); (case enNoMoveBadStand => k_is); (case enNoMoveNoPlace => k_is); (case enNoPlaceBadLane => k_is); (case enNoPlaceBadWays => k_is); (case enNoPlaceBadStand => k_is); (case enNoPlaceNoMove => k_is)
#print axioms PySem.Challenge.cw_sidinglane_k02_moves_allowed_holds

