import PyProof.Rows.All
import Wide.All
import OpenK.AllK
import Wide.FinOn
import HandS.ForMost
import HandS.ForExc
import HandS.TupAny
import HandS.TupMul
import HandS.Style
import HandS.OwnEq
import HandS.IsInst
import HandS.Zip
import KE.DataFind
import PyProof.ReprRoads
import PyProof.ReprLen
import HandS.ExcIs
import HandS.ExcValue
import HandS.Walk
import HandS.Conv
import HandS.ListItems
import KE.KDictList
import HandS.DictComp
import HandS.SortRule
import KE.GoesNew
import HandS.Iter
import HandS.Deep
import HandS.Small
import HandS.More
import HandS.SortInts
import PyProof.Rows.SetFrom
import HandS.SetFor
import HandS.Strs
import HandS.NamedTupGet
import HandS.Finally
import PySem.Challenge.RW_afterfall_k03_matches_and_both
set_option Elab.async false
set_option linter.all false
set_option maxRecDepth 100000
namespace Af
open PySem L2

/-! heaps -/
theorem same_new {H : Hp} {p : Addr} {o : HO} (h : H p = none) : Same H (upd H p o) := fun b u e => by
  rw [upd_ne (ne_of_none e h)]
  exact e
theorem nofree {H : Hp} {p q : Addr} {o : HO} (h : H p = some o) (h' : H q = none) : q ≠ p := fun e => by
  rw [e, h] at h'
  cases h'

/-- a new object o -/
def New (o : HO) (H : Hp) (Q : VK) : Prop := ∀ (p : Addr) (H' : Hp), H p = none → Same H H' → H' p = some o → Q (.ref p) H'
theorem New.mk {o : HO} {H : Hp} {Q : VK} (h : New o H Q) : ∀ p, H p = none → Q (.ref p) (upd H p o) := fun p hp => h p _ hp (same_new hp) upd_same
/-- a tuple of xs, new or not -/
def NewT (xs : List V) (H : Hp) (Q : VK) : Prop := ∀ (p : Addr) (H' : Hp), Same H H' → H' p = some (.tup xs) → Q (.ref p) H'

theorem pe_imp {X : Cx} {e : Expr} {t t' : TE} (h : PE X e t) (i : ∀ σ H Q, t' σ H Q → t σ H Q) : PE X e t' := ⟨fun pins s σ H Q I q => h.run pins s σ H Q I (i σ H Q q)⟩
theorem op_imp {X : Cx} {f : Value → Value → Sem Value} {r r' : R2} (h : OpR X f r) (i : ∀ x y H Q, r' x y H Q → r x y H Q) : OpR X f r' :=
  fun pins s σ H x y v u Q I rx ry q => h pins s σ H x y v u Q I rx ry (i x y H Q q)
theorem call_imp {X : Cx} {f : Value} {r r' : List V → Hp → VK → Prop} (h : CallR X f r) (i : ∀ xs H Q, r' xs H Q → r xs H Q) : CallR X f r' :=
  fun pins s σ H xs us Q I rs q => h pins s σ H xs us Q I rs (i xs H Q q)

/-! displays -/
def tTup' (t : TA) : TE := fun σ H Q => t σ H fun xs H1 => xs.length ≤ sizeLine ∧ New (.tup xs) H1 Q
def tLst' (t : TA) : TE := fun σ H Q => t σ H fun xs H1 => xs.length ≤ sizeLine ∧ New (.lst xs) H1 Q
section
variable {X : Cx} {e : Expr} {es : List Expr} {te : TE} {t : TA} {pos : Pos}
theorem pe_tup' {x1 : Nat} (h : PA X es t) : PE X (.Tuple es x1 pos) (tTup' t) := ⟨fun pins s σ H Q I hq =>
  wpAny_Tuple_spliced (thn (h.run pos pins s σ H _ I hq) fun us s1 z => by
    obtain ⟨xs, H1, I1, r, z, q⟩ := z
    refine ⟨by rw [← r.length]; exact z, ?_⟩
    have hf := I1.fresh
    exact ⟨.ref s1.heap.objs.size, upd H1 s1.heap.objs.size (.tup xs),
      I1.laid (t' := s1.toks) (fun b u e => Heap.get?_push_of_some _ e) (Nat.le_refl _) ⟨z, us, r, ⟨_, Heap.get?_push_size _ rfl, rfl, _, rfl⟩⟩, rfl, q.mk _ hf⟩)⟩
theorem pe_lst' (h : PA X es t) : PE X (.List es pos) (tLst' t) := ⟨fun pins s σ H Q I hq =>
  wpAny_List_spliced (thn (h.run pos pins s σ H _ I hq) fun us s1 z => by
    obtain ⟨xs, H1, I1, r, z, q⟩ := z
    refine ⟨by rw [← r.length]; exact z, ?_⟩
    have hf := I1.fresh
    exact ⟨.ref s1.heap.objs.size, upd H1 s1.heap.objs.size (.lst xs),
      I1.laid (t' := s1.toks) (fun b u e => Heap.get?_push_of_some _ e) (Nat.le_refl _) ⟨z, us, 0, r, Heap.get?_push_size _ rfl⟩, rfl, q.mk _ hf⟩)⟩

/-! lists and tuples -/
def rCat' : R2 := fun x y H Q => ∃ l b xs zs, x = .ref l ∧ y = .ref b ∧ H l = some (.lst xs) ∧ H b = some (.lst zs) ∧ xs.length + zs.length ≤ sizeLine ∧ New (.lst (xs ++ zs)) H Q
theorem op_cat' : OpR X (binaryOp .Add) rCat' := op_imp op_cat fun x y H Q h => by
  obtain ⟨l, b, xs, zs, h1, h2, h3, h4, h5, q⟩ := h
  exact ⟨l, b, xs, zs, h1, h2, h3, h4, h5, q.mk⟩
def rCatT' : R2 := fun x y H Q => ∃ a b xs ys, x = .ref a ∧ y = .ref b ∧ H a = some (.tup xs) ∧ H b = some (.tup ys) ∧ xs.length + ys.length ≤ sizeLine ∧ NewT (xs ++ ys) H Q
theorem op_catT' : OpR X (binaryOp .Add) rCatT' := op_imp op_catA fun x y H Q h => by
  obtain ⟨a, b, xs, ys, h1, h2, h3, h4, h5, q⟩ := h
  refine ⟨a, b, xs, ys, h1, h2, SqT.of h3, SqT.of h4, h5, fun e => ?_, fun _ e => ?_, fun _ _ p hp => q p _ (same_new hp) upd_same⟩
  · subst e
    exact q b H (Same.refl H) h4
  · subst e
    exact q a H (Same.refl H) (by rw [List.append_nil]; exact h3)
def rRep' : R2 := fun x y H Q => ∃ l k xs, x = .ref l ∧ y = .int k ∧ H l = some (.lst xs) ∧ 0 ≤ k ∧ k ≤ 1000 ∧ xs.length * k.toNat ≤ sizeLine ∧ New (.lst (List.replicate k.toNat xs).flatten) H Q
theorem op_rep' : OpR X (binaryOp .Mult) rRep' := op_imp op_rep fun x y H Q h => by
  obtain ⟨l, k, xs, h1, h2, h3, h4, h5, h6, q⟩ := h
  exact ⟨l, k, xs, h1, h2, h3, by omega, by omega, h6, q.mk⟩
theorem sl_imp {r r' : V → Option Int → Option Int → Hp → VK → Prop} (h : SlR X r) (i : ∀ x lo hi H Q, r' x lo hi H Q → r x lo hi H Q) : SlR X r' :=
  fun pins s σ H x v vl vu lo hi sl Q I rx hs pl pu q => h pins s σ H x v vl vu lo hi sl Q I rx hs pl pu (i x lo hi H Q q)
def rSlL' : V → Option Int → Option Int → Hp → VK → Prop := fun x lo hi H Q => ∃ a xs, x = .ref a ∧ H a = some (.lst xs) ∧ New (.lst (cutV xs lo hi)) H Q
theorem sl_list' : SlR X rSlL' := sl_imp sl_list fun x lo hi H Q h => by
  obtain ⟨a, xs, h1, h2, q⟩ := h
  exact ⟨a, xs, h1, SqL.of h2, q.mk⟩
theorem cut_all {xs : List V} {lo hi : Option Int} (h : HT.sIx xs.length 0 lo = 0 ∧ HT.sIx xs.length xs.length hi = xs.length) : cutV xs lo hi = xs := by
  unfold cutV
  rw [h.1, h.2]
  simp
def rSlT' : V → Option Int → Option Int → Hp → VK → Prop := fun x lo hi H Q => ∃ a xs, x = .ref a ∧ H a = some (.tup xs) ∧ NewT (cutV xs lo hi) H Q
theorem sl_tup' : SlR X rSlT' := sl_imp sl_tupA fun x lo hi H Q h => by
  obtain ⟨a, xs, h1, h2, q⟩ := h
  refine ⟨a, xs, h1, SqT.of h2, fun w => ?_, fun _ p hp => q p _ (same_new hp) upd_same⟩
  exact q a H (Same.refl H) (by rw [cut_all w]; exact h2)
def Sq (H : Hp) (p : Addr) (ys : List V) : Prop := H p = some (.lst ys) ∨ H p = some (.tup ys)
theorem Sq.or {K : PySem.W.Frag} {H : Hp} {p : Addr} {ys : List V} (h : Sq H p ys) : SqL K H p ys ∨ SqT K H p ys := h.elim (fun h => .inl (SqL.of h)) fun h => .inr (SqT.of h)
def rList' : List V → Hp → VK → Prop := fun xs H Q => ∃ p ys, xs = [.ref p] ∧ Sq H p ys ∧ New (.lst ys) H Q
theorem call_list' : CallR X (.type "list") rList' := call_imp call_list_of fun xs H Q h => by
  obtain ⟨p, ys, h1, h2, q⟩ := h
  exact ⟨p, ys, h1, h2.or, q.mk⟩
def rTuple' : List V → Hp → VK → Prop := fun xs H Q => ∃ p ys, xs = [.ref p] ∧ Sq H p ys ∧ NewT ys H Q
theorem call_tuple' : CallR X (.type "tuple") rTuple' := call_imp call_tuple_of fun xs H Q h => by
  obtain ⟨p, ys, h1, h2, q⟩ := h
  rcases h2 with h2 | h2
  · exact ⟨p, ys, h1, .inl ⟨SqL.of h2, fun l hl => q l _ (same_new hl) upd_same⟩⟩
  · exact ⟨p, ys, h1, .inr ⟨SqT.of h2, q p H (Same.refl H) h2⟩⟩
def rLen' : List V → Hp → VK → Prop := fun xs H Q => ∃ p ys, xs = [.ref p] ∧ Sq H p ys ∧ Q (.int ys.length) H
theorem call_len' : CallR X (.builtin "len") rLen' := call_imp call_len_seq fun xs H Q h => by
  obtain ⟨p, ys, h1, h2, q⟩ := h
  exact ⟨p, ys, h1, h2.or, q⟩
def rLenK (K : PySem.W.Frag) : List V → Hp → VK → Prop := fun xs H Q => ∃ p ys, xs = [.ref p] ∧ (SqL K H p ys ∨ SqT K H p ys) ∧ Q (.int ys.length) H
theorem call_lenK : CallR X (.builtin "len") (rLenK X.K) := call_len_seq
theorem ix_imp {r r' : R2} (h : IxR X r) (i : ∀ x y H Q, r' x y H Q → r x y H Q) : IxR X r' :=
  fun value slice pins s σ H x y v u Q I rx ry q hs => h value slice pins s σ H x y v u Q I rx ry (i x y H Q q) hs
def rIx' : R2 := fun x y H Q => ∃ p xs i v, x = .ref p ∧ y = .int i ∧ Sq H p xs ∧ atI xs i = some v ∧ Q v H
theorem ix_seq' : IxR X rIx' := ix_imp (ix_list.or ix_tup) fun x y H Q h => by
  obtain ⟨p, xs, i, v, h1, h2, h3, h4, q⟩ := h
  rcases h3 with h3 | h3
  · exact .inl ⟨p, xs, i, v, h1, h2, SqL.of h3, h4, q⟩
  · exact .inr ⟨p, xs, i, v, h1, h2, SqT.of h3, h4, q⟩
/-- xs[::-1] -/
def tRev' (te : TE) : TE := fun σ H Q => te σ H fun x H1 => ∃ a xs, x = .ref a ∧ H1 a = some (.lst xs) ∧ New (.lst xs.reverse) H1 Q
end

/-! a def of the text, called -/
structure Cal (P : Program) (w : World) (K : PySem.W.Frag) (mg : Str → Option Value) (base : Heap) (k : Nat) (x : Str) (ps : List Str) (sp : Sp) : Prop where
  ex : ∃ (f : Addr) (fd : FuncData), FnOk P w K mg base CX0 k f fd ps sp ∧ mg x = some (.ref f) ∧ PySem.W.keepIn K (.ref f) = true ∧ Binds K fd ps []
def tCal (sp : Sp) (t : TA) : TE := fun σ H Q => t σ H fun vs H1 => sp vs H1 Q E0
section
variable {X : Cx} {k j : Nat} {x : Str} {ps : List Str} {sp : Sp} {e : Expr} {es : List Expr} {t : TA} {p pos : Pos}
theorem pe_cal (c : Cal X.prog X.w X.K X.mg X.base k x ps sp) (hr : Room j X.A) (ha : PA X (e :: es) t) (hkj : k ≤ j := by decide) (hg : Gl X x := by rfl) (hdb : (x == ("__debug__" : Str)) = false := by decide)
    (he : starEach (e :: es) X.env = (false, eval e X.env) :: starEach es X.env := by rfl) (hpl : (backTo pos (starEach es X.env)).any (·.1) = false := by rfl) :
    PE X (.Call (.Name x p) (e :: es) [] pos) (tCal sp t) := by
  obtain ⟨f, fd, G, m, kp, b⟩ := c.ex
  have := pe_call (pos := pos) (p := p) G (hr.mono hkj) hg m kp b .nil pass0 ha hdb he hpl
  refine ⟨fun pins s σ H Q I h => this.run pins s σ H Q I ?_⟩
  have e1 : tCal sp t = tCall sp [] E0 t := by
    funext σ H Q
    unfold tCal tCall
    simp only [List.append_nil]
  rw [← e1]
  exact h
theorem pe_cal0 (c : Cal X.prog X.w X.K X.mg X.base k x ps sp) (hr : Room j X.A) (hkj : k ≤ j := by decide) (hg : Gl X x := by rfl) (hdb : (x == ("__debug__" : Str)) = false := by decide) :
    PE X (.Call (.Name x p) [] [] pos) (tCal sp tNil) := by
  obtain ⟨f, fd, G, m, kp, b⟩ := c.ex
  exact pe_call0 (pos := pos) (p := p) G (hr.mono hkj) hg m kp b .nil pass0 hdb
end

/-! ways that meet again behind a statement: J tells where -/
def tCut (t : TS) : TS := fun D σ H => ∃ J : L2.St → Hp → Prop, t { D with nx := J } σ H ∧ ∀ σ' H', J σ' H' → D.nx σ' H'
theorem ps_cut {X : Cx} {st : Stmt} {t : TS} (h : PS X st t) : PS X st (tCut t) := ⟨fun pins s σ H D I q => by
  obtain ⟨J, q1, q2⟩ := q
  refine thn (h.run pins s σ H { D with nx := J } I q1) fun f s1 z => ?_
  cases f with
  | next =>
    obtain ⟨σ', H', I', z⟩ := z
    exact ⟨σ', H', I', q2 σ' H' z⟩
  | ret v => exact z
  | brk => exact z
  | cont => exact z⟩

/-! the pen: its list, its cells' list, the cells; how often it was asked (at most m), what is left -/
structure Pn where
  p : Addr
  c : Addr
  ns : List Int
structure Pen (q : Pn) (m : Nat) (H : Hp) : Prop where
  ex : ∃ (i n : Int), H q.p = some (.lst [.ref q.c, .int i, .int n]) ∧ H q.c = some (.lst (q.ns.map V.int)) ∧ q.c ≠ q.p ∧ 0 ≤ i ∧ i ≤ (m : Int) ∧ 0 ≤ n
theorem Pen.same {q : Pn} {m : Nat} {H H' : Hp} (h : Pen q m H) (s : Same H H') : Pen q m H' := by
  obtain ⟨i, n, h1, h2, h3⟩ := h.ex
  exact ⟨i, n, s _ _ h1, s _ _ h2, h3⟩
theorem Pen.mono {q : Pn} {m m' : Nat} {H : Hp} (h : Pen q m H) (l : m ≤ m') : Pen q m' H := by
  obtain ⟨i, n, h1, h2, h3, h4, h5, h6⟩ := h.ex
  exact ⟨i, n, h1, h2, h3, h4, by omega, h6⟩
theorem Pen.lst {q : Pn} {m : Nat} {H : Hp} (h : Pen q m H) : ∃ l, H q.p = some (.lst l) := by
  obtain ⟨i, n, h1, _⟩ := h.ex
  exact ⟨_, h1⟩
theorem Pen.free {q : Pn} {m : Nat} {H : Hp} {a : Addr} (h : Pen q m H) (e : H a = none) : a ≠ q.p ∧ a ≠ q.c := by
  obtain ⟨i, n, h1, h2, _⟩ := h.ex
  refine ⟨fun z => ?_, fun z => ?_⟩
  · rw [z, h1] at e
    cases e
  · rw [z, h2] at e
    cases e
/-- an object that is not the pen's is changed -/
theorem Pen.upd {q : Pn} {m : Nat} {H : Hp} {a : Addr} {o : HO} (h : Pen q m H) (n : a ≠ q.p ∧ a ≠ q.c) : Pen q m (upd H a o) := by
  obtain ⟨i, r, h1, h2, h3⟩ := h.ex
  exact ⟨i, r, by rw [upd_ne n.1.symm]; exact h1, by rw [upd_ne n.2.symm]; exact h2, h3⟩
/-- what stands but for the list at p stands -/
def Kp (p : Addr) (H H' : Hp) : Prop := ∀ a o, (a ≠ p ∨ ∀ l, o ≠ HO.lst l) → H a = some o → H' a = some o
theorem Kp.refl {p : Addr} {H : Hp} : Kp p H H := fun _ _ _ h => h
theorem Kp.trans {p : Addr} {H H1 H2 : Hp} (a : Kp p H H1) (b : Kp p H1 H2) : Kp p H H2 := fun c o n h => b c o n (a c o n h)
theorem Kp.same {p : Addr} {H H' : Hp} (s : Same H H') : Kp p H H' := fun a o _ h => s a o h
theorem Kp.tup {p a : Addr} {H H' : Hp} {xs : List V} (k : Kp p H H') (h : H a = some (.tup xs)) : H' a = some (.tup xs) := k a _ (.inr fun l z => by cases z) h
theorem Kp.lst {p a : Addr} {H H' : Hp} {xs : List V} (k : Kp p H H') (n : a ≠ p) (h : H a = some (.lst xs)) : H' a = some (.lst xs) := k a _ (.inl n) h
theorem Kp.ins {p a C dx : Addr} {H H' : Hp} {fs : List (Str × V)} (k : Kp p H H') (h : H a = some (.ins C dx fs)) : H' a = some (.ins C dx fs) := k a _ (.inr fun l z => by cases z) h
/-- what a call with the pen leaves: all but the pen as it was, a pen again -/
structure Go (q : Pn) (m : Nat) (H H' : Hp) : Prop where
  kp : Kp q.p H H'
  pen : Pen q m H'
theorem Go.refl {q : Pn} {m : Nat} {H : Hp} (h : Pen q m H) : Go q m H H := ⟨Kp.refl, h⟩
theorem Go.trans {q : Pn} {m m' : Nat} {H H1 H2 : Hp} (a : Go q m H H1) (b : Go q m' H1 H2) : Go q m' H H2 := ⟨a.kp.trans b.kp, b.pen⟩
theorem Go.mono {q : Pn} {m m' : Nat} {H H' : Hp} (a : Go q m H H') (l : m ≤ m') : Go q m' H H' := ⟨a.kp, a.pen.mono l⟩
theorem Go.same {q : Pn} {m : Nat} {H H1 H2 : Hp} (a : Go q m H H1) (s : Same H1 H2) : Go q m H H2 := ⟨a.kp.trans (Kp.same s), a.pen.same s⟩
theorem Go.of {q : Pn} {m : Nat} {H H1 : Hp} (h : Pen q m H) (s : Same H H1) : Go q m H H1 := ⟨Kp.same s, h.same s⟩
/-- the pen's own list is stored into -/
theorem Go.at_ {q : Pn} {m m' : Nat} {H : Hp} {l : List V} (h : Pen q m H) (e : Pen q m' (L2.upd H q.p (.lst l))) : Go q m' H (L2.upd H q.p (.lst l)) := ⟨fun a o n k => by
  by_cases z : a = q.p
  · obtain ⟨l', e'⟩ := h.lst
    rcases n with n | n
    · exact absurd z n
    · rw [z, e'] at k
      exact absurd (Option.some.inj k).symm (n l')
  · rw [upd_ne z]
    exact k, e⟩
/-- a list that is new since H is changed -/
theorem Go.mut {q : Pn} {m : Nat} {H H' : Hp} {D : Addr} {o : HO} (h : Pen q m H) (hD : H D = none) {m' : Nat} (g : Go q m' H H') : Go q m' H (L2.upd H' D o) :=
  ⟨fun a u n e => by rw [upd_ne (ne_of_none e hD)]; exact g.kp a u n e, g.pen.upd (h.free hD)⟩
theorem Go.none {q : Pn} {m m' : Nat} {H H' : Hp} {a : Addr} (g : Go q m H H') (h : Pen q m' H) (e : H' a = none) : H a = none := by
  have z := (g.pen.free e).1
  cases k : H a with
  | none => rfl
  | some o =>
    rw [g.kp a o (.inl z) k] at e
    cases e
theorem sz {n : Nat} (h : n ≤ 100000) : n ≤ sizeLine := Nat.le_trans h (by decide)
theorem szr {n : Nat} (h : Nat.ble n 100000 = true := by rfl) : n ≤ sizeLine := sz (Nat.le_of_ble_eq_true h)
theorem szl {n : Nat} (h : n < 100000) : n < sizeLine := Nat.lt_of_lt_of_le h (by decide)

/-! data -/
def ivs (ns : List Int) : List V := ns.map V.int
def dvs (ns : List Int) : List PyData := ns.map PyData.int
theorem dp_ints {K : PySem.W.Frag} {H : Hp} : ∀ ns : List Int, DpAll K H (ivs ns) (dvs ns)
  | [] => .nil
  | n :: ns => .cons (.int n) (dp_ints ns)
theorem lay_ints : ∀ ns : List Int, PyData.canLayAll0 (dvs ns) = true
  | [] => rfl
  | n :: ns => by
    show (PyData.canLay0 (.int n) && PyData.canLayAll0 (dvs ns)) = true
    rw [lay_ints ns]
    rfl
theorem deep_ints : ∀ ns : List Int, PyData.depthAll (dvs ns) = 0
  | [] => rfl
  | n :: ns => by
    show max (PyData.depth (.int n)) (PyData.depthAll (dvs ns)) = 0
    rw [deep_ints ns]
    rfl
theorem eqv_nil (ns : List Int) : PyData.eqv (.list (dvs ns)) (.list []) = ns.isEmpty := by
  cases ns <;> rfl
def rNeNil : R2 := fun x y H Q => ∃ a b ns, x = .ref a ∧ y = .ref b ∧ H a = some (.lst (ivs ns)) ∧ H b = some (.lst []) ∧ Q (.bl (!ns.isEmpty)) H
theorem op_neNil {X : Cx} (hu : X.A.units + 64 < cLine) : OpR X (compareOp .NotEq) rNeNil := op_imp (op_neD hu) fun x y H Q h => by
  obtain ⟨a, b, ns, rfl, rfl, h1, h2, q⟩ := h
  refine ⟨.list (dvs ns), .list [], .lst (SqL.of h1) (dp_ints ns), .lst (SqL.of h2) .nil, ?_, by decide, ?_⟩
  · show (PyData.canLayAll0 (dvs ns) && decide (PyData.depthAll (dvs ns) + 1 ≤ 64)) = true
    rw [lay_ints, deep_ints]
    rfl
  · rw [eqv_nil]
    exact q
end Af

set_option Elab.async false
set_option linter.all false
set_option maxRecDepth 100000
namespace Af
open PySem L2
def top (i : Nat) : Stmt := PySem.Challenge.pw_afterfall_k03_matches_and_both.main.body.getD i (.Pass ⟨0, 0, 0, 0⟩)
/-- names of the built-ins that the text does not hide -/
structure Txt (mg : Str → Option Value) : Prop where
  len : mg "len" = none
  int : mg "int" = none
  list : mg "list" = none
  tuple : mg "tuple" = none
  range : mg "range" = none
  min : mg "min" = none
  all : mg "all" = none
  enumerate : mg "enumerate" = none
  zip : mg "zip" = none
  isinstance : mg "isinstance" = none
  bool : mg "bool" = none
abbrev s_l_pen : Stmt := top 21
abbrev N_l_pen : List Str := ["_law_script"]
theorem sc_l_pen : FnScope N_l_pen ["_law_script"] (defScope s_l_pen) := ⟨rfl, rfl, rfl, by decide +kernel, rfl, by decide +kernel, by decide +kernel⟩

abbrev s_l_next : Stmt := top 22
abbrev N_l_next : List Str := ["_law_pen_here", "_law_index", "_law_cell_here", "_law_some_here", "_law_more", "_law_high"]
theorem sc_l_next : FnScope N_l_next ["_law_pen_here"] (defScope s_l_next) := ⟨rfl, rfl, rfl, by decide +kernel, rfl, by decide +kernel, by decide +kernel⟩

abbrev s_l_draw : Stmt := top 23
abbrev N_l_draw : List Str := ["_law_pen_here", "_law_under", "_law_digit"]
theorem sc_l_draw : FnScope N_l_draw ["_law_pen_here", "_law_under"] (defScope s_l_draw) := ⟨rfl, rfl, rfl, by decide +kernel, rfl, by decide +kernel, by decide +kernel⟩

def sp_pen (K : PySem.W.Frag) : Sp := fun vs H Q _ => ∃ (a : Addr) (ns : List Int), vs = [.ref a] ∧ SqL K H a (ns.map V.int) ∧ ∀ (q : Pn) H', Same H H' → H q.p = none → H q.c = none → Pen q 0 H' → Q (.ref q.p) H'
def sp_next : Sp := fun vs H Q _ => ∃ (q : Pn) (m : Nat), vs = [.ref q.p] ∧ Pen q m H ∧ m < 1000000000000 ∧ ∀ r H', 0 ≤ r → Go q (m + 1) H H' → Q (.int r) H'
def sp_draw : Sp := fun vs H Q _ => ∃ (q : Pn) (m : Nat) (u : Int), vs = [.ref q.p, .int u] ∧ 0 < u ∧ u < 1073741824 ∧ Pen q m H ∧ m < 1000000000000 ∧ ∀ d H', 0 ≤ d → d < u → Go q (m + 1) H H' → Q (.int d) H'
section
variable {P : Program} {w : World} {K : PySem.W.Frag} {mg : Str → Option Value} {base : Heap}
theorem ok_pen {f : Addr} {fd : FuncData} (F : Fun K "_law_pen" "_law_pen" s_l_pen f fd) (T : Txt mg) : FnOk P w K mg base CX0 1 f fd ["_law_script"] (sp_pen K) := by
  refine F.ok sc_l_pen (fun vs H Q E h => ?_) (fun cdv A outer s H vs Q E hr h => ?_)
  · obtain ⟨a, ns, rfl, _⟩ := h
    rfl
  obtain ⟨a, ns, rfl, hS, k⟩ := h
  refine ⟨_, (pss_one (ps_ret (pe_lst' (pa_cons (pe_callTy call_list' (by rfl) T.list (by decide +kernel) (pa_cons (pe_slice sl_list (pv 0) po_none (po_some pe_int)) pa_nil)) (pa_cons pe_int (pa_cons pe_int pa_nil)))))), ?_⟩
  refine ⟨_, rfl, 60, rfl, a, _, rfl, hS, fun c hc => ?_⟩
  have e1 : cutV (ns.map V.int) none (some 60) = (ns.take 60).map V.int := by
    unfold cutV
    have : HT.sIx (ns.map V.int).length (ns.map V.int).length (some 60) = min 60 (ns.map V.int).length := HT.sIx_nat _ _ 60
    rw [this, HT.sIx_none, List.drop_zero, Nat.sub_zero, ← List.map_take]
    congr 1
    rw [List.length_map]
    rcases Nat.le_total 60 ns.length with z | z
    · rw [Nat.min_eq_left z]
    · rw [Nat.min_eq_right z, List.take_of_length_le z, List.take_of_length_le (Nat.le_refl _)]
  refine ⟨c, _, rfl, .inl upd_same, fun d H1 hd s1 hd1 => ?_⟩
  refine ⟨sz (by show 3 ≤ 100000; decide), fun p H2 hp s2 hp2 => ?_⟩
  refine k ⟨p, d, ns.take 60⟩ H2 ((same_new hc).trans (s1.trans s2)) ?_ ?_ ⟨0, 0, hp2, ?_, ?_, Int.le_refl _, Int.le_refl _, Int.le_refl _⟩
  · exact (same_new hc).free (s1.free hp)
  · exact (same_new hc).free hd
  · rw [← e1]
    exact s2 _ _ hd1
  · intro z
    have z' : d = p := z
    rw [← z', hd1] at hp
    cases hp
theorem mod_in {i n : Int} (h : 0 < n) : 0 ≤ i % n ∧ i % n < n := ⟨Int.emod_nonneg i (by omega), Int.emod_lt_of_pos i h⟩
theorem at_mod {ns : List Int} {i : Int} (h : ns ≠ []) : ∃ z, atI (ivs ns) (i % ((ivs ns).length : Int)) = some (.int z) := by
  have hl : 0 < (ivs ns).length := by
    unfold ivs
    rw [List.length_map]
    exact List.length_pos_iff.mpr h
  obtain ⟨a, b⟩ := mod_in (i := i) (n := ((ivs ns).length : Int)) (by omega)
  obtain ⟨j, hj⟩ := Int.eq_ofNat_of_zero_le a
  rw [hj] at b ⊢
  have hj' : j < ns.length := by
    unfold ivs at b
    rw [List.length_map] at b
    omega
  refine ⟨ns[j], atI_nat ?_⟩
  unfold ivs
  rw [List.getElem?_map, List.getElem?_eq_getElem hj']
  rfl
theorem ok_next {f : Addr} {fd : FuncData} (F : Fun K "_law_next" "_law_next" s_l_next f fd) (T : Txt mg) : FnOk P w K mg base CX0 1 f fd ["_law_pen_here"] sp_next := by
  refine F.ok sc_l_next (fun vs H Q E h => ?_) (fun cdv A outer s H vs Q E hr h => ?_)
  · obtain ⟨a, m, rfl, _⟩ := h
    rfl
  obtain ⟨q, m, rfl, hP, hm, k⟩ := h
  obtain ⟨i, n, h1, h2, hc, hi, him, hn⟩ := hP.ex
  refine ⟨_, (pss_cons (ps_set (i := 1) sc_l_next.nd rfl (Or.inl rfl) (pe_ix ix_seq' (pv 0) pe_int (fun _ _ => rfl)))
    (pss_cons (ps_asg (pe_op op_add (pv 1) pe_int) (pg_sub (pv 0) pe_int set_list))
    (pss_cons (ps_set (i := 2) sc_l_next.nd rfl (Or.inl rfl) (pe_op op_add (pe_op op_mul (pv 1) pe_int) pe_int))
    (pss_cons (ps_cut (ps_if (pt_cmpR (op_neNil hr.units) (pe_ix ix_seq' (pv 0) pe_int (fun _ _ => rfl)) (pe_lst' pa_nil) (nomark _))
      (pss_one (ps_set (i := 2) sc_l_next.nd rfl (Or.inl rfl) (pe_ix ix_seq' (pe_ix ix_seq' (pv 0) pe_int (fun _ _ => rfl)) (pe_op op_mod (pe_callTy call_int1 (by rfl) T.int (by decide +kernel) (pa_cons (pv 1) pa_nil)) (pe_callB call_len' (by rfl) T.len (by decide +kernel) (pa_cons (pe_ix ix_seq' (pv 0) pe_int (fun _ _ => rfl)) pa_nil))) (fun _ _ => rfl))))
      pss_nil))
    (pss_cons (ps_cut (ps_if (PW.pt (pw_and (pt_cmpR op_lt (pv 1) (pe_callB call_len' (by rfl) T.len (by decide +kernel) (pa_cons (pe_ix ix_seq' (pv 0) pe_int (fun _ _ => rfl)) pa_nil)) (nomark _)) (pw_and1 (pt_cmpR op_ge (pv 2) (pe_op op_pow pe_int pe_int) (nomark _)))))
      (pss_one (ps_ret (pv 2)))
      pss_nil))
    (pss_cons (ps_set (i := 3) sc_l_next.nd rfl (Or.inl rfl) (pe_op op_mod (pe_callTy call_int1 (by rfl) T.int (by decide +kernel) (pa_cons (pe_op op_add (pe_op op_add (pe_op op_mod (pe_callTy call_int1 (by rfl) T.int (by decide +kernel) (pa_cons (pv 2) pa_nil)) pe_int) (pe_op op_mul (pv 1) pe_int)) pe_int) pa_nil)) pe_int))
    (pss_cons (ps_set (i := 4) sc_l_next.nd rfl (Or.inl rfl) (pe_op op_mod (pe_callTy call_int1 (by rfl) T.int (by decide +kernel) (pa_cons (pe_op op_add (pe_op op_add (pe_op op_mul (pv 3) (pv 3)) (pe_op op_mul (pv 1) pe_int)) pe_int) pa_nil)) pe_int))
    (pss_cons (ps_set (i := 5) sc_l_next.nd rfl (Or.inl rfl) (pe_op op_mod (pe_callTy call_int1 (by rfl) T.int (by decide +kernel) (pa_cons (pe_op op_add (pe_op op_add (pe_op op_mul (pv 4) (pv 4)) (pv 3)) (pe_op op_mul (pe_op op_mul (pv 1) (pv 1)) pe_int)) pa_nil)) pe_int))
    (pss_one (ps_ret (pe_op op_add (pe_op op_mul (pe_op op_add (pe_op op_mul (pv 5) pe_int) (pv 4)) pe_int) (pv 3)))))))))))), ?_⟩
  -- the count, the cell
  refine ⟨_, rfl, q.p, _, _, _, rfl, rfl, .inl h1, rfl, ?_⟩
  refine ⟨_, rfl, _, _, rfl, rfl, _, rfl, q.p, _, _, _, rfl, rfl, h1, rfl, ?_⟩
  refine ⟨_, rfl, _, _, rfl, rfl, .inr ⟨by decide, by decide⟩, _, _, rfl, rfl, ?_⟩
  have e1 : (upd H q.p (.lst [.ref q.c, .int (i + 1), .int n])) q.p = some (.lst [.ref q.c, .int (i + 1), .int n]) := upd_same
  have g1 : Go q (m + 1) H (upd H q.p (.lst [.ref q.c, .int (i + 1), .int n])) := Go.at_ hP ⟨i + 1, n, upd_same, by rw [upd_ne hc]; exact h2, hc, by omega, by omega, hn⟩
  have e2 : (upd H q.p (.lst [.ref q.c, .int (i + 1), .int n])) q.c = some (.lst (ivs q.ns)) := by rw [upd_ne hc]; exact h2
  refine ⟨fun σ' H' => ∃ cell : Int, σ' = [some (.ref q.p), some (.int i), some (.int cell), none, none, none] ∧ Go q (m + 1) H H' ∧ H' q.p = some (.lst [.ref q.c, .int (i + 1), .int n]) ∧ H' q.c = some (.lst (ivs q.ns)), ?_, ?_⟩
  · refine ⟨_, rfl, q.p, _, _, _, rfl, rfl, .inl e1, rfl, ?_⟩
    refine ⟨sz (by decide), fun e H1 he s1 he1 => ?_⟩
    have k1 := s1 _ _ e1
    have k2 := s1 _ _ e2
    have g2 := g1.same s1
    refine ⟨q.c, e, q.ns, rfl, rfl, k2, he1, _, rfl, ?_⟩
    by_cases hns : q.ns = []
    · have z : (!q.ns.isEmpty) = false := by rw [hns]; rfl
      rw [z]
      exact iteF ⟨_, rfl, g2, k1, k2⟩
    · have z : (!q.ns.isEmpty) = true := by
        cases e : q.ns with
        | nil => exact absurd e hns
        | cons a b => rfl
      rw [z]
      refine iteT ?_
      obtain ⟨v, hv⟩ := at_mod (i := i) hns
      refine ⟨_, rfl, q.p, _, _, _, rfl, rfl, .inl k1, rfl, ?_⟩
      refine ⟨_, rfl, .inl ⟨_, rfl, ?_⟩⟩
      refine ⟨_, rfl, q.p, _, _, _, rfl, rfl, .inl k1, rfl, q.c, _, rfl, .inl k2, ?_⟩
      refine ⟨_, _, rfl, rfl, ?_, q.c, _, _, _, rfl, rfl, .inl k2, hv, ?_⟩
      · unfold ivs
        rw [List.length_map]
        have := List.length_pos_iff.mpr hns
        omega
      · exact ⟨v, rfl, g2, k1, k2⟩
  · rintro σ' H' ⟨cell, rfl, g2, k1, k2⟩
    -- a great cell is taken as it is
    refine ⟨fun σ'' H'' => σ'' = [some (.ref q.p), some (.int i), some (.int cell), none, none, none] ∧ H'' = H', ?_, ?_⟩
    · refine ⟨_, rfl, _, rfl, q.p, _, _, _, rfl, rfl, .inl k1, rfl, q.c, _, rfl, .inl k2, ?_⟩
      refine ⟨_, _, rfl, rfl, _, rfl, ite2 (fun _ => ?_) (fun _ => iteF ⟨rfl, rfl⟩)⟩
      refine ⟨_, rfl, _, _, rfl, rfl, ⟨by decide, by decide, by decide⟩, _, _, rfl, rfl, _, rfl, ite2 (fun q => ?_) (fun _ => ⟨rfl, rfl⟩)⟩
      refine ⟨_, rfl, k cell H' ?_ g2⟩
      have q' : (10 : Int) ^ (18 : Nat) ≤ cell := of_decide_eq_true q
      omega
    · rintro σ'' H'' ⟨rfl, rfl⟩
      have M1 : (0 : Int) < 2147483587 := by decide
      refine ⟨_, rfl, .inl ⟨_, rfl, _, _, rfl, rfl, M1, ?_⟩⟩
      refine ⟨_, rfl, _, _, rfl, rfl, .inr ⟨by decide, by decide⟩, _, _, rfl, rfl, _, _, rfl, rfl, .inl ⟨_, rfl, _, _, rfl, rfl, M1, ?_⟩⟩
      generalize hs : ((cell % 2147483587 + i * 30119 + 89) % 2147483587 : Int) = some1
      have b1 := mod_in (i := cell % 2147483587 + i * 30119 + 89) M1
      rw [hs] at b1
      have M2 : (0 : Int) < 2147483563 := by decide
      refine ⟨_, rfl, _, rfl, _, _, rfl, rfl, .inl ⟨by omega, by omega⟩, _, rfl, _, _, rfl, rfl, .inr ⟨by decide, by decide⟩, _, _, rfl, rfl, _, _, rfl, rfl, .inl ⟨_, rfl, _, _, rfl, rfl, M2, ?_⟩⟩
      generalize hs2 : ((some1 * some1 + i * 70061 + 71) % 2147483563 : Int) = more
      have b2 := mod_in (i := some1 * some1 + i * 70061 + 71) M2
      rw [hs2] at b2
      have M3 : (0 : Int) < 2147483549 := by decide
      refine ⟨_, rfl, _, rfl, _, _, rfl, rfl, .inl ⟨by omega, by omega⟩, _, rfl, _, _, rfl, rfl, _, rfl, _, rfl, _, _, rfl, rfl, .inl ⟨by omega, by omega⟩, _, _, rfl, rfl, .inr ⟨by decide, by decide⟩, _, _, rfl, rfl, .inl ⟨_, rfl, _, _, rfl, rfl, M3, ?_⟩⟩
      generalize hs3 : ((more * more + some1 + i * i * 47) % 2147483549 : Int) = high
      have b3 := mod_in (i := more * more + some1 + i * i * 47) M3
      rw [hs3] at b3
      refine ⟨_, rfl, _, _, rfl, rfl, .inr ⟨by decide, by decide⟩, _, rfl, _, _, rfl, rfl, _, _, rfl, rfl, .inr ⟨by decide, by decide⟩, _, rfl, _, _, rfl, rfl, ?_⟩
      exact k _ H'' (by omega) g2
theorem ok_draw {f : Addr} {fd : FuncData} (F : Fun K "_law_draw" "_law_draw" s_l_draw f fd) (T : Txt mg) (c_l_next : Cal P w K mg base 1 "_law_next" ["_law_pen_here"] sp_next) : FnOk P w K mg base CX0 2 f fd ["_law_pen_here", "_law_under"] sp_draw := by
  refine F.ok sc_l_draw (fun vs H Q E h => ?_) (fun cdv A outer s H vs Q E hr h => ?_)
  · obtain ⟨a, m, u, rfl, _⟩ := h
    rfl
  obtain ⟨q, m, u, rfl, u0, u1, hP, hm, k⟩ := h
  refine ⟨_, (pss_cons (ps_cut (ps_if (pt_cmpR op_lt (pe_ix ix_seq' (pv 0) pe_int (fun _ _ => rfl)) (pv 1) (nomark _))
      (pss_one (ps_asg (pe_cal c_l_next hr (pa_cons (pv 0) pa_nil)) (pg_sub (pv 0) pe_int set_list)))
      pss_nil))
    (pss_cons (ps_set (i := 2) sc_l_draw.nd rfl (Or.inl rfl) (pe_op op_mod (pe_callTy call_int1 (by rfl) T.int (by decide +kernel) (pa_cons (pe_ix ix_seq' (pv 0) pe_int (fun _ _ => rfl)) pa_nil)) (pv 1)))
    (pss_cons (ps_asg (pe_op op_fdiv (pe_ix ix_seq' (pv 0) pe_int (fun _ _ => rfl)) (pv 1)) (pg_sub (pv 0) pe_int set_list))
    (pss_one (ps_ret (pv 2)))))), ?_⟩
  refine ⟨fun σ' H' => ∃ i n, σ' = [some (.ref q.p), some (.int u), none] ∧ Go q (m + 1) H H' ∧ H' q.p = some (.lst [.ref q.c, .int i, .int n]) ∧ H' q.c = some (.lst (ivs q.ns)) ∧ q.c ≠ q.p ∧ 0 ≤ i ∧ i ≤ ((m + 1 : Nat) : Int) ∧ 0 ≤ n, ?_, ?_⟩
  · obtain ⟨i, n, h1, h2, hc, hi, him, hn⟩ := hP.ex
    refine ⟨_, rfl, q.p, _, _, _, rfl, rfl, .inl h1, rfl, _, rfl, _, _, rfl, rfl, _, rfl, ite2 (fun _ => ?_) (fun _ => ?_)⟩
    · refine ⟨_, rfl, q, m, rfl, hP, hm, fun r H1 r0 g1 => ?_⟩
      obtain ⟨i, n, h1, h2, hc, hi, him, hn⟩ := g1.pen.ex
      refine ⟨_, rfl, q.p, _, _, _, rfl, rfl, h1, rfl, i, r, rfl, ?_, upd_same, by rw [upd_ne hc]; exact h2, hc, hi, him, r0⟩
      exact g1.trans (Go.at_ g1.pen ⟨i, r, upd_same, by rw [upd_ne hc]; exact h2, hc, hi, him, r0⟩)
    · exact ⟨i, n, rfl, (Go.refl hP).mono (Nat.le_succ m), h1, h2, hc, hi, by omega, hn⟩
  · rintro σ' H' ⟨i, n, rfl, g1, h1, h2, hc, hi, him, hn⟩
    refine ⟨_, rfl, q.p, _, _, _, rfl, rfl, .inl h1, rfl, .inl ⟨_, rfl, _, rfl, _, _, rfl, rfl, u0, ?_⟩⟩
    refine ⟨_, rfl, q.p, _, _, _, rfl, rfl, .inl h1, rfl, _, rfl, _, _, rfl, rfl, ⟨u0, u1⟩, _, rfl, q.p, _, _, _, rfl, rfl, h1, rfl, ?_⟩
    obtain ⟨b0, b1⟩ := mod_in (i := n) u0
    refine ⟨_, rfl, k _ _ b0 b1 (g1.trans (Go.at_ g1.pen ⟨i, n / u, upd_same, by rw [upd_ne hc]; exact h2, hc, hi, him, Int.ediv_nonneg hn (by omega)⟩))⟩
end
end Af

set_option Elab.async false
set_option linter.all false
set_option maxRecDepth 100000
namespace Af
open PySem L2
theorem same_mut {H H' : Hp} {D : Addr} {o : HO} (s : Same H H') (h : H D = none) : Same H (upd H' D o) := fun a u e => by
  rw [upd_ne (ne_of_none e h)]
  exact s a u e
/-! data: a step, a plan's parts -/
abbrev Stp := Option (Int × List Int)
def StepV (H : Hp) : V → Stp → Prop
  | x, none => x = .non
  | x, some (f, ws) => ∃ a b, x = .ref a ∧ H a = some (.tup [.int f, .ref b]) ∧ H b = some (.tup (ivs ws))
structure Pl where
  cs : List Int
  w : Int
  sts : List Stp
structure PlanV (p : Addr) (H : Hp) (v : V) (pl : Pl) : Prop where
  ex : ∃ a ca sa xs, v = .ref a ∧ H a = some (.tup [.ref ca, .int pl.w, .ref sa]) ∧ H ca = some (.tup (ivs pl.cs)) ∧ sa ≠ p ∧ H sa = some (.lst xs) ∧ Paired (StepV H) xs pl.sts
theorem StepV.kp {p : Addr} {H H' : Hp} (k : Kp p H H') : ∀ {x : V} {st : Stp}, StepV H x st → StepV H' x st
  | x, none, h => h
  | x, some (f, ws), h => by
    obtain ⟨a, b, e, h1, h2⟩ := h
    exact ⟨a, b, e, k.tup h1, k.tup h2⟩
theorem steps_kp {p : Addr} {H H' : Hp} {xs : List V} {sts : List Stp} (k : Kp p H H') (h : Paired (StepV H) xs sts) : Paired (StepV H') xs sts := L2.Paired.mapP h fun _ _ z => z.kp k
theorem steps_same {H H' : Hp} {xs : List V} {sts : List Stp} (k : Same H H') (h : Paired (StepV H) xs sts) : Paired (StepV H') xs sts := steps_kp (p := 0) (Kp.same k) h
theorem PlanV.kp {p : Addr} {H H' : Hp} {v : V} {pl : Pl} (k : Kp p H H') (h : PlanV p H v pl) : PlanV p H' v pl := by
  obtain ⟨a, ca, sa, xs, e, h1, h2, n, h3, h4⟩ := h.ex
  exact ⟨a, ca, sa, xs, e, k.tup h1, k.tup h2, n, k.lst n h3, steps_kp k h4⟩
theorem PlanV.same {p : Addr} {H H' : Hp} {v : V} {pl : Pl} (k : Same H H') (h : PlanV p H v pl) : PlanV p H' v pl := h.kp (Kp.same k)
theorem paired_app {α β : Type} {F : α → β → Prop} : ∀ {a c : List α} {b d : List β}, Paired F a b → Paired F c d → Paired F (a ++ c) (b ++ d)
  | _, _, _, _, .nil, h => h
  | _, _, _, _, .cons r t, h => .cons r (paired_app t h)
theorem paired_take {α β : Type} {F : α → β → Prop} : ∀ {a : List α} {b : List β} (n : Nat), Paired F a b → Paired F (a.take n) (b.take n)
  | _, _, 0, _ => by
    rw [List.take_zero, List.take_zero]
    exact .nil
  | _, _, n + 1, .nil => .nil
  | _, _, n + 1, .cons r t => .cons r (paired_take n t)
theorem paired_drop {α β : Type} {F : α → β → Prop} : ∀ {a : List α} {b : List β} (n : Nat), Paired F a b → Paired F (a.drop n) (b.drop n)
  | _, _, 0, h => h
  | _, _, n + 1, .nil => .nil
  | _, _, n + 1, .cons r t => paired_drop n t
theorem paired_rev {α β : Type} {F : α → β → Prop} : ∀ {a : List α} {b : List β}, Paired F a b → Paired F a.reverse b.reverse
  | _, _, .nil => .nil
  | _, _, .cons r t => by
    rw [List.reverse_cons, List.reverse_cons]
    exact paired_app (paired_rev t) (.cons r .nil)
theorem paired_get {α β : Type} {F : α → β → Prop} : ∀ {a : List α} {b : List β} {i : Nat} {x : α}, Paired F a b → a[i]? = some x → ∃ y, b[i]? = some y ∧ F x y
  | _, _, _, _, .nil, e => by simp at e
  | _, _, 0, x, .cons r _, e => by
    simp at e
    subst e
    exact ⟨_, rfl, r⟩
  | _, _, i + 1, x, .cons _ t, e => by
    obtain ⟨y, h1, h2⟩ := paired_get (i := i) (x := x) t (by simpa using e)
    exact ⟨y, by simpa using h1, h2⟩
theorem paired_len {α β : Type} {F : α → β → Prop} : ∀ {a : List α} {b : List β}, Paired F a b → a.length = b.length
  | _, _, .nil => rfl
  | _, _, .cons _ t => by
    rw [List.length_cons, List.length_cons, paired_len t]
theorem ivs_len (ns : List Int) : (ivs ns).length = ns.length := List.length_map ..
theorem ivs_get {ns : List Int} {i : Nat} (h : i < ns.length) : (ivs ns)[i]? = some (.int ns[i]) := by
  unfold ivs
  rw [List.getElem?_map, List.getElem?_eq_getElem h]
  rfl
/-- a step of a store of n cells -/
def OkS (n : Nat) : Stp → Prop
  | none => True
  | some (f, ws) => 0 ≤ f ∧ ws ≠ [] ∧ f + (ws.length : Int) ≤ (n : Int) ∧ ∀ z ∈ ws, 0 ≤ z ∧ z < 8
def stl : Stp → Nat
  | none => 0
  | some (_, ws) => ws.length
def tot (l : List Stp) : Nat := (l.map stl).sum
theorem tot_nil : tot [] = 0 := rfl
theorem tot_cons (a : Stp) (b : List Stp) : tot (a :: b) = stl a + tot b := by
  unfold tot
  rw [List.map_cons, List.sum_cons]
theorem tot_app (a b : List Stp) : tot (a ++ b) = tot a + tot b := by
  unfold tot
  rw [List.map_append, List.sum_append]
theorem tot_one (a : Stp) : tot [a] = stl a := by
  rw [tot_cons, tot_nil, Nat.add_zero]
theorem tot_take_drop (l : List Stp) (n : Nat) : tot (l.take n) + tot (l.drop n) = tot l := by
  rw [← tot_app, List.take_append_drop]
theorem tot_rev (l : List Stp) : tot l.reverse = tot l := by
  induction l with
  | nil => rfl
  | cons a l ih => rw [List.reverse_cons, tot_app, tot_one, tot_cons, ih, Nat.add_comm]
/-- a plan that the program takes, with room to spare for s steps and t cells of writes -/
structure Good (s t : Nat) (pl : Pl) : Prop where
  c1 : 1 ≤ pl.cs.length
  c24 : pl.cs.length ≤ 24
  cb : ∀ z ∈ pl.cs, 0 ≤ z ∧ z < 8
  w1 : 1 ≤ pl.w
  w24 : pl.w ≤ 24
  st : ∀ x ∈ pl.sts, OkS pl.cs.length x
  sl : pl.sts.length ≤ s
  tl : tot pl.sts ≤ t
theorem Good.mono {s t s' t' : Nat} {pl : Pl} (g : Good s t pl) (h1 : s ≤ s') (h2 : t ≤ t') : Good s' t' pl := ⟨g.c1, g.c24, g.cb, g.w1, g.w24, g.st, Nat.le_trans g.sl h1, Nat.le_trans g.tl h2⟩
/-! a comprehension whose element is a draw -/
theorem lc_draws {te : TE} {j : Nat} {vs : List Nat} {σ : L2.St} {q : Pn} {m n : Nat} {u : Int} {H : Hp} {R : Addr → Hp → Prop} (hP : Pen q m H) (hn : n ≤ 10000)
    (hw : ∀ x, wipe ((wipe σ vs).set j (some x)) vs = wipe σ vs)
    (hte : ∀ (x : V) (H1 : Hp) (Q : VK) (m1 : Nat), Pen q m1 H1 → m1 < m + n → (∀ d H', 0 ≤ d → d < u → Go q (m1 + 1) H1 H' → Q (.int d) H') → te ((wipe σ vs).set j (some x)) H1 Q)
    (k : ∀ D H' ns, H D = none → Go q (m + n) H H' → H' D = some (.lst (ivs ns)) → ns.length = n → (∀ z ∈ ns, 0 ≤ z ∧ z < u) → R D H') :
    ∀ D, H D = none → ∃ W : Nat → Nat → Hp → Prop, (∃ m, W 0 m (upd H D (.lst []))) ∧ ∀ i m H, W i m H →
      ((Itr 0 n).stop i H ∧ R D H) ∨ ((Itr 0 n).go i H ∧ ∃ Nx : Hp → Prop, (∀ H', Nx H' → ∃ m', m' < m ∧ W (i + 1) m' H') ∧ ∀ x H', (Itr 0 n).yld i H x H' → (gName j) x (wipe σ vs) H' fun σ2 H2 => wipe σ2 vs = wipe σ vs ∧ tYes σ2 H2 fun b H3 =>
        if b = true then te σ2 H3 fun y H4 => ∃ acc, H4 D = some (.lst acc) ∧ acc.length < sizeLine ∧ Nx (upd H4 D (.lst (acc ++ [y]))) else Nx H3) := by
  intro D hD
  refine lc_range (lo := 0) (n := n) (g := gName j) (tt := tYes) (te := te) (vs := vs) (σ := σ) (H1 := H) (D := D) (Qd := fun H' => R D H')
    (fun i H' => ∃ ns, Go q (m + i) H H' ∧ H' D = some (.lst (ivs ns)) ∧ ns.length = i ∧ ∀ z ∈ ns, 0 ≤ z ∧ z < u) ?_ ?_ ?_
  · exact ⟨[], (Go.of hP (same_new hD)), upd_same, rfl, fun z hz => by simp at hz⟩
  · rintro i H' hi ⟨ns, g, hL, hl, hb⟩
    refine ⟨hw _, ?_⟩
    refine hte _ _ _ _ g.pen (by omega) fun d H'' d0 d1 g2 => ?_
    have hD2 : H'' D = some (.lst (ivs ns)) := g2.kp.lst (hP.free hD).1 hL
    refine ⟨_, hD2, by rw [ivs_len, hl]; exact szl (by omega), ns ++ [d], ?_, ?_, by rw [List.length_append, hl]; rfl, fun z hz => ?_⟩
    · exact Go.mut hP hD ((g.trans g2).mono (by omega))
    · rw [upd_same]
      unfold ivs
      rw [List.map_append]
      rfl
    · rcases List.mem_append.mp hz with hz | hz
      · exact hb z hz
      · rw [List.mem_singleton.mp hz]
        exact ⟨d0, d1⟩
  · rintro H' ⟨ns, g, hL, hl, hb⟩
    exact k D H' ns hD g hL hl hb
end Af

set_option Elab.async false
set_option linter.all false
set_option maxRecDepth 100000
namespace Af
open PySem L2
/-! things of any kind, and what they are -/
def tyNames : List String := ["NoneType", "bool", "int", "str", "list", "tuple", "dict"]
def clNames : List String := ["int", "bool", "tuple", "list", "dict", "str"]
def isB (n c : String) : Bool := n == c || (n == "bool" && c == "int")
theorem kit_all : ∀ n ∈ tyNames, ∀ c ∈ clNames, kitB n c = some (isB n c) := by decide +kernel
structure Ty (K : PySem.W.Frag) (H : Hp) (x : V) (n : String) : Prop where
  ty : TyOf K H x (.type n)
  mem : n ∈ tyNames
  nf : ∀ a o u, x = .ref a → H a ≠ some (.frz o u)
def rIsi' (K : PySem.W.Frag) : List V → Hp → VK → Prop := fun xs H Q => ∃ x n c, xs = [x, .ty c] ∧ Ty K H x n ∧ c ∈ clNames ∧ Q (.bl (isB n c)) H
theorem call_isi' {X : Cx} : CallR X (.builtin "isinstance") (rIsi' X.K) := call_imp call_isi fun xs H Q h => by
  obtain ⟨x, n, c, e, t, hc, q⟩ := h
  exact ⟨x, .ty c, _, _, _, e, .ty c, .base t.ty, kit_ty (kit_all n t.mem c hc), q⟩
theorem tyof_at {K : PySem.W.Frag} {H : Hp} {a : Addr} {n : String} (t : TyOf K H (.ref a) (.type n)) : ∃ o, H a = some o := by
  cases t with
  | lst e => exact ⟨_, e⟩
  | frz e => exact ⟨_, e⟩
  | tup e => exact ⟨_, e⟩
  | dK e => exact ⟨_, e⟩
  | dT e => exact ⟨_, e⟩
theorem Ty.same {K : PySem.W.Frag} {H H' : Hp} {x : V} {n : String} (s : Same H H') (t : Ty K H x n) : Ty K H' x n := by
  obtain ⟨t, m, nf⟩ := t
  refine ⟨?_, m, fun a o u e z => ?_⟩
  · cases t with
    | non => exact .non
    | bl b => exact .bl b
    | int i => exact .int i
    | str z => exact .str z
    | lst e => exact .lst (s _ _ e)
    | frz e => exact .frz (s _ _ e)
    | tup e => exact .tup (s _ _ e)
    | dK e => exact .dK (s _ _ e)
    | dT e => exact .dT (s _ _ e)
    | flt z => exact .flt z
  · subst e
    obtain ⟨o', ho⟩ := tyof_at t
    rw [s _ _ ho] at z
    exact nf a o u rfl (ho.trans z)
theorem ty_int {K : PySem.W.Frag} {H : Hp} {x : V} {n : String} (t : Ty K H x n) (h : n = "int") : ∃ i, x = .int i := by
  obtain ⟨t, _, nf⟩ := t
  generalize e : Value.type n = v at t
  subst h
  cases t with
  | int i => exact ⟨i, rfl⟩
  | ins => cases e
  | _ => exact absurd (by injection e) (by decide)
theorem ty_tup {K : PySem.W.Frag} {H : Hp} {x : V} {n : String} (t : Ty K H x n) (h : n = "tuple") : ∃ a xs, x = .ref a ∧ H a = some (.tup xs) := by
  obtain ⟨t, _, nf⟩ := t
  generalize e : Value.type n = v at t
  subst h
  cases t with
  | tup z => exact ⟨_, _, rfl, z⟩
  | ins => cases e
  | _ => exact absurd (by injection e) (by decide)
theorem ty_lst {K : PySem.W.Frag} {H : Hp} {x : V} {n : String} (t : Ty K H x n) (h : n = "list") : ∃ a xs, x = .ref a ∧ H a = some (.lst xs) := by
  obtain ⟨t, _, nf⟩ := t
  generalize e : Value.type n = v at t
  subst h
  cases t with
  | lst z => exact ⟨_, _, rfl, z⟩
  | frz z => exact absurd z (nf _ _ _ rfl)
  | ins => cases e
  | _ => exact absurd (by injection e) (by decide)
theorem no_int {K : PySem.W.Frag} {H : Hp} {x : V} {n : String} (t : Ty K H x n) (h : n ≠ "int") : ∀ i, x ≠ .int i := fun i e => by
  subst e
  cases t.ty with
  | int i => exact h rfl
theorem no_tup {K : PySem.W.Frag} {H : Hp} {x : V} {n : String} (t : Ty K H x n) (h : n ≠ "tuple") : ∀ a xs, x = .ref a → H a ≠ some (.tup xs) := fun a xs e z => by
  subst e
  cases t.ty with
  | tup e => exact h rfl
  | lst e => rw [e] at z; cases z
  | frz e => rw [e] at z; cases z
  | dK e => rw [e] at z; cases z
  | dT e => rw [e] at z; cases z
/-- a thing whose parts are things, to a depth -/
def Th (K : PySem.W.Frag) (H : Hp) : Nat → V → Prop
  | 0, x => ∃ n, Ty K H x n
  | d + 1, x => (∃ n, Ty K H x n) ∧ ∀ a xs, x = .ref a → (H a = some (.tup xs) ∨ H a = some (.lst xs)) → xs.length ≤ 100000 ∧ ∀ y ∈ xs, Th K H d y
theorem Th.ty {K : PySem.W.Frag} {H : Hp} : ∀ {d : Nat} {x : V}, Th K H d x → ∃ n, Ty K H x n
  | 0, _, h => h
  | _ + 1, _, h => h.1
theorem ty_at {K : PySem.W.Frag} {H : Hp} {a : Addr} {n : String} (t : Ty K H (.ref a) n) : ∃ o, H a = some o := tyof_at t.ty
theorem Th.same {K : PySem.W.Frag} {H H' : Hp} (s : Same H H') : ∀ {d : Nat} {x : V}, Th K H d x → Th K H' d x
  | 0, _, ⟨n, h⟩ => ⟨n, h.same s⟩
  | d + 1, x, ⟨⟨n, h⟩, k⟩ => ⟨⟨n, h.same s⟩, fun a xs e z => by
    subst e
    obtain ⟨o, ho⟩ := ty_at h
    have e' := s _ _ ho
    have z' : H a = some (.tup xs) ∨ H a = some (.lst xs) := by
      rcases z with z | z
      · rw [e'] at z
        rw [ho]
        exact .inl z
      · rw [e'] at z
        rw [ho]
        exact .inr z
    exact ⟨(k a xs rfl z').1, fun y hy => ((k a xs rfl z').2 y hy).same s⟩⟩
theorem th_int {K : PySem.W.Frag} {H : Hp} {i : Int} : ∀ {d : Nat}, Th K H d (.int i)
  | 0 => ⟨"int", .int i, by decide, fun _ _ _ e => by cases e⟩
  | _ + 1 => ⟨⟨"int", .int i, by decide, fun _ _ _ e => by cases e⟩, fun a xs e => by cases e⟩
theorem th_non {K : PySem.W.Frag} {H : Hp} : ∀ {d : Nat}, Th K H d .non
  | 0 => ⟨"NoneType", .non, by decide, fun _ _ _ e => by cases e⟩
  | _ + 1 => ⟨⟨"NoneType", .non, by decide, fun _ _ _ e => by cases e⟩, fun a xs e => by cases e⟩
theorem th_tup {K : PySem.W.Frag} {H : Hp} {a : Addr} {xs : List V} (e : H a = some (.tup xs)) (hl : xs.length ≤ 100000) : ∀ {d : Nat}, (∀ y ∈ xs, Th K H d y) → Th K H (d + 1) (.ref a) := fun {d} k =>
  ⟨⟨"tuple", .tup e, by decide, fun b o u z h => by cases z; rw [e] at h; cases h⟩, fun b ys z h => by
    cases z
    rcases h with h | h
    · rw [e] at h
      cases h
      exact ⟨hl, k⟩
    · rw [e] at h
      cases h⟩
theorem th_lst {K : PySem.W.Frag} {H : Hp} {a : Addr} {xs : List V} (e : H a = some (.lst xs)) (hl : xs.length ≤ 100000) : ∀ {d : Nat}, (∀ y ∈ xs, Th K H d y) → Th K H (d + 1) (.ref a) := fun {d} k =>
  ⟨⟨"list", .lst e, by decide, fun b o u z h => by cases z; rw [e] at h; cases h⟩, fun b ys z h => by
    cases z
    rcases h with h | h
    · rw [e] at h
      cases h
    · rw [e] at h
      cases h
      exact ⟨hl, k⟩⟩
/-! what the program's questions answer -/
def idxB (m : Int) : V → Bool
  | .int i => decide (0 ≤ i) && decide (i < m)
  | _ => false
def widthB : V → Bool
  | .int i => decide (1 ≤ i) && decide (i ≤ 24)
  | _ => false
def worthsB (H : Hp) : V → Bool
  | .ref a => match H a with
    | some (.tup xs) => !xs.isEmpty && xs.all (idxB 8)
    | _ => false
  | _ => false
def lenB (H : Hp) : V → Nat
  | .ref a => match H a with
    | some (.tup xs) => xs.length
    | some (.lst xs) => xs.length
    | _ => 0
  | _ => 0
def contentB (H : Hp) (x : V) : Bool := worthsB H x && decide (lenB H x ≤ 24)
def addB (m : Int) (n : Nat) : V → Bool
  | .int i => decide (i + (n : Int) ≤ m)
  | _ => false
def stepB (H : Hp) (m : Int) : V → Bool
  | .non => true
  | .ref a => match H a with
    | some (.tup [f, ws]) => idxB m f && worthsB H ws && addB m (lenB H ws) f
    | _ => false
  | _ => false
def stepsB (H : Hp) (m : Int) : V → Bool
  | .ref a => match H a with
    | some (.lst xs) => xs.all (stepB H m)
    | _ => false
  | _ => false
theorem worths_at {H : Hp} {a : Addr} {xs : List V} (h : H a = some (.tup xs)) : worthsB H (.ref a) = (!xs.isEmpty && xs.all (idxB 8)) := by
  unfold worthsB
  simp only [h]
theorem len_at {H : Hp} {a : Addr} {xs : List V} (h : H a = some (.tup xs)) : lenB H (.ref a) = xs.length := by
  unfold lenB
  simp only [h]
theorem worths_not {K : PySem.W.Frag} {H : Hp} {x : V} {n : String} (t : Ty K H x n) (h : n ≠ "tuple") : worthsB H x = false := by
  have z := no_tup t h
  cases x with
  | ref a =>
    cases e : H a with
    | none => simp only [worthsB, e]
    | some o =>
      cases o with
      | tup xs => exact absurd e (z a xs rfl)
      | _ => simp only [worthsB, e]
  | _ => rfl
theorem worths_same {K : PySem.W.Frag} {H H' : Hp} {x : V} {n : String} (t : Ty K H x n) (s : Same H H') : worthsB H' x = worthsB H x := by
  cases x with
  | ref a =>
    obtain ⟨o, ho⟩ := ty_at t
    simp only [worthsB, ho, s _ _ ho]
  | _ => rfl
theorem len_same {K : PySem.W.Frag} {H H' : Hp} {x : V} {n : String} (t : Ty K H x n) (s : Same H H') : lenB H' x = lenB H x := by
  cases x with
  | ref a =>
    obtain ⟨o, ho⟩ := ty_at t
    simp only [lenB, ho, s _ _ ho]
  | _ => rfl
theorem worths_true {H : Hp} {x : V} (h : worthsB H x = true) : ∃ a xs, x = .ref a ∧ H a = some (.tup xs) ∧ xs ≠ [] ∧ xs.all (idxB 8) = true := by
  cases x with
  | ref a =>
    cases e : H a with
    | none => simp only [worthsB, e] at h; cases h
    | some o =>
      cases o with
      | tup xs =>
        rw [worths_at e, Bool.and_eq_true] at h
        refine ⟨a, xs, rfl, e, fun z => ?_, h.2⟩
        rw [z] at h
        exact absurd h.1 (by decide)
      | _ => simp only [worthsB, e] at h; cases h
  | _ => cases h
theorem int_one : ∀ n ∈ tyNames, isB n "int" = true → (!isB n "bool") = decide (n = "int") := by decide +kernel
theorem int_two : ∀ n ∈ tyNames, isB n "int" = false → decide (n = "int") = false := by decide +kernel
theorem tup_not : ∀ n ∈ tyNames, n ≠ "tuple" → isB n "tuple" = false := by decide +kernel
theorem lst_not : ∀ n ∈ tyNames, n ≠ "list" → isB n "list" = false := by decide +kernel
theorem idx_not {m : Int} {x : V} (h : ∀ i, x ≠ .int i) : idxB m x = false := by
  cases x with
  | int i => exact absurd rfl (h i)
  | _ => rfl
theorem width_not {x : V} (h : ∀ i, x ≠ .int i) : widthB x = false := by
  cases x with
  | int i => exact absurd rfl (h i)
  | _ => rfl
theorem ty_is_lst {K : PySem.W.Frag} {H : Hp} {a : Addr} {n : String} {xs : List V} (t : Ty K H (.ref a) n) (e : H a = some (.lst xs)) : n = "list" := by
  obtain ⟨t, m, nf⟩ := t
  cases t with
  | lst z => rfl
  | frz z => exact absurd z (nf _ _ _ rfl)
  | tup z => rw [e] at z; cases z
  | dK z => rw [e] at z; cases z
  | dT z => rw [e] at z; cases z
theorem step_same {K : PySem.W.Frag} {H H' : Hp} {x : V} {m : Int} (th : Th K H 2 x) (s : Same H H') : stepB H' m x = stepB H m x := by
  cases x with
  | ref a =>
    obtain ⟨n, t⟩ := th.ty
    obtain ⟨o, ho⟩ := ty_at t
    have ho' := s _ _ ho
    cases o with
    | tup xs =>
      match xs, ho, ho' with
      | [], ho, ho' => simp only [stepB, ho, ho']
      | [_], ho, ho' => simp only [stepB, ho, ho']
      | [f, ws], ho, ho' =>
        obtain ⟨n2, t2⟩ := ((th.2 a _ rfl (.inl ho)).2 ws (List.mem_cons_of_mem _ List.mem_cons_self)).ty
        simp only [stepB, ho, ho']
        rw [worths_same t2 s, len_same t2 s]
      | _ :: _ :: _ :: _, ho, ho' => simp only [stepB, ho, ho']
    | _ => simp only [stepB, ho, ho']
  | _ => rfl
end Af

set_option Elab.async false
set_option linter.all false
set_option maxRecDepth 100000
namespace Af
open PySem L2
abbrev s_is_integer : Stmt := top 6
abbrev N_is_integer : List Str := ["thing"]
theorem sc_is_integer : FnScope N_is_integer ["thing"] (defScope s_is_integer) := ⟨rfl, rfl, rfl, by decide +kernel, rfl, by decide +kernel, by decide +kernel⟩

abbrev s_is_index : Stmt := top 7
abbrev N_is_index : List Str := ["thing", "many"]
theorem sc_is_index : FnScope N_is_index ["thing", "many"] (defScope s_is_index) := ⟨rfl, rfl, rfl, by decide +kernel, rfl, by decide +kernel, by decide +kernel⟩

abbrev s_are_worths : Stmt := top 12
abbrev N_are_worths : List Str := ["thing", "part"]
theorem sc_are_worths : FnScope N_are_worths ["thing"] (defScope s_are_worths) := ⟨rfl, rfl, rfl, by decide +kernel, rfl, by decide +kernel, by decide +kernel⟩

abbrev s_is_content : Stmt := top 13
abbrev N_is_content : List Str := ["thing"]
theorem sc_is_content : FnScope N_is_content ["thing"] (defScope s_is_content) := ⟨rfl, rfl, rfl, by decide +kernel, rfl, by decide +kernel, by decide +kernel⟩

/-- the module's constants -/
structure Cst (K : PySem.W.Frag) (mg : Str → Option Value) : Prop where
  cells : ∃ t, mg "MOST_CELLS" = some (.int 24 t)
  worths : ∃ a, mg "ALL_WORTHS" = some (.ref a) ∧ ∀ H, SqT K H a (ivs [0, 1, 2, 3, 4, 5, 6, 7])
def sp_is_integer (K : PySem.W.Frag) : Sp := fun vs H Q _ => ∃ x n, vs = [x] ∧ Ty K H x n ∧ Q (.bl (decide (n = "int"))) H
def sp_is_index (K : PySem.W.Frag) : Sp := fun vs H Q _ => ∃ (x : V) (m : Int) (n : String), vs = [x, .int m] ∧ Ty K H x n ∧ Q (.bl (idxB m x)) H
def sp_is_width (K : PySem.W.Frag) : Sp := fun vs H Q _ => ∃ x n, vs = [x] ∧ Ty K H x n ∧ Q (.bl (widthB x)) H
def sp_are_worths (K : PySem.W.Frag) : Sp := fun vs H Q _ => ∃ x, vs = [x] ∧ Th K H 1 x ∧ ∀ H', Same H H' → Q (.bl (worthsB H x)) H'
def sp_is_content (K : PySem.W.Frag) : Sp := fun vs H Q _ => ∃ x, vs = [x] ∧ Th K H 1 x ∧ ∀ H', Same H H' → Q (.bl (contentB H x)) H'
def sp_is_step (K : PySem.W.Frag) : Sp := fun vs H Q _ => ∃ (m : Int) (x : V), vs = [.int m, x] ∧ Th K H 2 x ∧ ∀ H', Same H H' → Q (.bl (stepB H m x)) H'
def sp_are_steps (K : PySem.W.Frag) (spr : Sp) : Sp := fun vs H Q _ => ∃ (m wd : Int) (x : V), vs = [.int m, .int wd, x] ∧ Th K H 3 x ∧ (stepsB H m x = false → ∀ H', Same H H' → Q (.bl false) H') ∧ (stepsB H m x = true → ∀ H', Same H H' → spr [.int wd, x] H' Q E0)
section
variable {P : Program} {w : World} {K : PySem.W.Frag} {mg : Str → Option Value} {base : Heap}
theorem ok_is_integer {f : Addr} {fd : FuncData} (F : Fun K "is_integer" "is_integer" s_is_integer f fd) (T : Txt mg) : FnOk P w K mg base CX0 1 f fd ["thing"] (sp_is_integer K) := by
  refine F.ok sc_is_integer (fun vs H Q E h => ?_) (fun cdv A outer s H vs Q E hr h => ?_)
  · obtain ⟨_, _, rfl, _⟩ := h
    rfl
  obtain ⟨x, n, rfl, t, k⟩ := h
  refine ⟨_, (pss_one (ps_ret (pe_and (pe_callB call_isi' (by rfl) T.isinstance (by decide +kernel) (pa_cons (pv 0) (pa_cons (pe_bltn (v := .ty "int") (by rfl) T.int (by decide +kernel) rfl) pa_nil))) (pe_one (pe_not (pe_callB call_isi' (by rfl) T.isinstance (by decide +kernel) (pa_cons (pv 0) (pa_cons (pe_bltn (v := .ty "bool") (by rfl) T.bool (by decide +kernel) rfl) pa_nil)))))))), ?_⟩
  refine ⟨_, rfl, x, n, "int", rfl, t, by decide, _, rfl, ?_⟩
  cases c : isB n "int" with
  | true =>
    refine ⟨_, rfl, x, n, "bool", rfl, t, by decide, _, rfl, ?_⟩
    rw [int_one n t.mem c]
    exact k
  | false =>
    rw [int_two n t.mem c] at k
    exact k
theorem ok_is_index {f : Addr} {fd : FuncData} (F : Fun K "is_index" "is_index" s_is_index f fd) (T : Txt mg) (c_is_integer : Cal P w K mg base 1 "is_integer" ["thing"] (sp_is_integer K)) : FnOk P w K mg base CX0 2 f fd ["thing", "many"] (sp_is_index K) := by
  refine F.ok sc_is_index (fun vs H Q E h => ?_) (fun cdv A outer s H vs Q E hr h => ?_)
  · obtain ⟨_, _, _, rfl, _⟩ := h
    rfl
  obtain ⟨x, m, n, rfl, t, k⟩ := h
  refine ⟨_, (pss_one (ps_ret (pe_and (pe_cal c_is_integer hr (pa_cons (pv 0) pa_nil)) (pe_one (pe_chain op_le op_lt pe_int (pv 0) (pv 1)))))), ?_⟩
  refine ⟨_, rfl, x, n, rfl, t, _, rfl, ?_⟩
  by_cases c : n = "int"
  · rw [decide_eq_true c]
    obtain ⟨i, rfl⟩ := ty_int t c
    refine ⟨_, rfl, _, _, rfl, rfl, _, rfl, ?_⟩
    have e : idxB m (.int i) = (decide (0 ≤ i) && decide (i < m)) := rfl
    rw [e] at k
    cases c2 : decide ((0 : Int) ≤ i) with
    | true =>
      rw [c2] at k
      exact ⟨_, rfl, _, _, rfl, rfl, k⟩
    | false =>
      rw [c2] at k
      exact k
  · rw [decide_eq_false c]
    rw [idx_not (no_int t c)] at k
    exact k
theorem ok_are_worths {f : Addr} {fd : FuncData} (F : Fun K "are_worths" "are_worths" s_are_worths f fd) (T : Txt mg) (C : Cst K mg) (c_is_index : Cal P w K mg base 2 "is_index" ["thing", "many"] (sp_is_index K)) : FnOk P w K mg base CX0 3 f fd ["thing"] (sp_are_worths K) := by
  obtain ⟨aw, aw_m, aw_s⟩ := C.worths
  refine F.ok sc_are_worths (fun vs H Q E h => ?_) (fun cdv A outer s H vs Q E hr h => ?_)
  · obtain ⟨_, rfl, _⟩ := h
    rfl
  obtain ⟨x, rfl, th, k⟩ := h
  obtain ⟨n, t⟩ := th.ty
  refine ⟨_, (pss_cons (ps_cut (ps_if (PW.pt (pw_or (pt_not (pt_val (pe_callB call_isi' (by rfl) T.isinstance (by decide +kernel) (pa_cons (pv 0) (pa_cons (pe_bltn (v := .ty "tuple") (by rfl) T.tuple (by decide +kernel) rfl) pa_nil))))) (pw_or1 (pt_not (pt_truth (pv 0) (by intro _; rfl))))))
      (pss_one (ps_ret pe_bl))
      pss_nil))
    (pss_one (ps_ret (pe_callB (cr_all rfl) (by rfl) T.all (by decide +kernel) (pa_cons (pe_lc (own := [("part", 1)]) (g := (gName 1)) (tt := tYes) rfl sc_are_worths.nd (pi_tup (pv 0)) (blkOk_by (own := [("part", 1)]) (N := N_are_worths) (sc := defScope s_are_worths) (by decide +kernel)) (fun _ _ _ _ _ => pg_name (i := 1) sc_are_worths.nd rfl (Or.inl rfl)) (fun _ _ _ _ _ => pts_nil) (fun _ _ _ _ _ => (pe_cal c_is_index hr (pa_cons (pv 1) (pa_cons (pe_callB (r := rLenK K) call_lenK (by rfl) T.len (by decide +kernel) (pa_cons (pe_glob (v := .ref aw) rfl aw_m rfl) pa_nil)) pa_nil))))) pa_nil))))), ?_⟩
  refine ⟨fun σ' H' => ∃ a xs, x = .ref a ∧ H a = some (.tup xs) ∧ xs ≠ [] ∧ σ' = [some x, none] ∧ H = H', ?_, ?_⟩
  · refine ⟨_, rfl, x, n, "tuple", rfl, t, by decide, _, rfl, ?_⟩
    by_cases c : n = "tuple"
    · obtain ⟨a, xs, rfl, ha⟩ := ty_tup t c
      have e : (!isB n "tuple") = false := by rw [c]; decide
      rw [e]
      refine ⟨_, rfl, !xs.isEmpty, .inr (.inl ⟨xs, SqT.of ha, rfl⟩), ?_⟩
      cases xs with
      | nil =>
        have z := k H (Same.refl H)
        rw [worths_at ha] at z
        exact z
      | cons y ys => exact ⟨a, _, rfl, ha, by simp, rfl, rfl⟩
    · rw [tup_not n t.mem c]
      have z := k H (Same.refl H)
      rw [worths_not t c] at z
      exact z
  · rintro _ _ ⟨a, xs, rfl, ha, hne, rfl, rfl⟩
    obtain ⟨hl, hy⟩ := th.2 a xs rfl (.inl ha)
    refine ⟨_, rfl, a, rfl, ⟨xs, SqT.of ha⟩, fun D hD => lc_tup (K := K) (a := a) (xs := xs) (fun i H' => Same H H' ∧ H' D = some (.lst ((xs.take i).map fun y => V.bl (idxB 8 y)))) ?_ ?_ ?_ ?_⟩
    · exact ⟨same_new hD, upd_same⟩
    · rintro i H' _ ⟨s1, _⟩
      exact SqT.of (s1 _ _ ha)
    · rintro i y H' hx ⟨s1, h1⟩
      obtain ⟨n1, t1⟩ := (hy y (List.mem_of_getElem? hx)).ty
      have il : i < xs.length := (List.getElem?_eq_some_iff.mp hx).1
      refine ⟨rfl, _, rfl, aw, _, rfl, .inr (aw_s H'), y, 8, n1, rfl, t1.same s1, _, h1, ?_, same_mut s1 hD, ?_⟩
      · rw [List.length_map, List.length_take]
        exact szl (by omega)
      · rw [upd_same, List.take_add_one, hx]
        simp
    · rintro H' ⟨s1, h1⟩
      rw [List.take_length] at h1
      have z := k H' s1
      rw [worths_at ha] at z
      refine ⟨D, xs.map (idxB 8), rfl, SqL.of (by rw [h1, List.map_map]; rfl), ?_⟩
      have e : (!xs.isEmpty && xs.all (idxB 8)) = (xs.map (idxB 8)).all id := by
        cases xs with
        | nil => exact absurd rfl hne
        | cons y ys => simp
      rw [e] at z
      exact z
theorem ok_is_content {f : Addr} {fd : FuncData} (F : Fun K "is_content" "is_content" s_is_content f fd) (T : Txt mg) (C : Cst K mg) (c_are_worths : Cal P w K mg base 3 "are_worths" ["thing"] (sp_are_worths K)) : FnOk P w K mg base CX0 4 f fd ["thing"] (sp_is_content K) := by
  obtain ⟨tk, c_MOST_CELLS⟩ := C.cells
  refine F.ok sc_is_content (fun vs H Q E h => ?_) (fun cdv A outer s H vs Q E hr h => ?_)
  · obtain ⟨_, rfl, _⟩ := h
    rfl
  obtain ⟨x, rfl, th, k⟩ := h
  refine ⟨_, (pss_one (ps_ret (pe_and (pe_cal c_are_worths hr (pa_cons (pv 0) pa_nil)) (pe_one (pe_cmpR op_le (pe_callB call_len' (by rfl) T.len (by decide +kernel) (pa_cons (pv 0) pa_nil)) (pe_glob (v := .int 24) rfl c_MOST_CELLS ⟨_, rfl⟩) (nomark _)))))), ?_⟩
  refine ⟨_, rfl, x, rfl, th, fun H1 s1 => ⟨_, rfl, ?_⟩⟩
  have z := k H1 s1
  unfold contentB at z
  cases c : worthsB H x with
  | true =>
    obtain ⟨a, xs, rfl, ha, _⟩ := worths_true c
    rw [c, len_at ha] at z
    refine ⟨_, rfl, a, xs, rfl, .inr (s1 _ _ ha), _, _, rfl, rfl, ?_⟩
    have e : decide (((xs.length : Nat) : Int) ≤ 24) = decide (xs.length ≤ 24) := decide_eq_decide.mpr (by omega)
    show Q (V.bl (decide (((xs.length : Nat) : Int) ≤ 24))) H1
    rw [e]
    exact z
  | false =>
    rw [c] at z
    exact z
end
end Af

set_option Elab.async false
set_option linter.all false
set_option maxRecDepth 100000
namespace Af
open PySem L2
/-! a comprehension over zip, a for over enumerate, lists that stand still -/
theorem lc_zip {K : PySem.W.Frag} {a b : Addr} {xs ys : List V} {g : TG} {tt : TT} {te : TE} {vs : List Nat} {σ : L2.St} {H1 : Hp} {D : Addr} {Qd : Hp → Prop} (hl : xs.length = ys.length) (Pv : Nat → Hp → Prop)
    (h0 : Pv 0 (upd H1 D (.lst [])))
    (hq : ∀ i H, i ≤ xs.length → Pv i H → SqL K H a xs ∧ SqL K H b ys)
    (hs : ∀ (i : Nat) (x y : V) (T : Addr) (H : Hp), xs[i]? = some x → ys[i]? = some y → Pv i H → H T = none → g (.ref T) (wipe σ vs) (upd H T (.tup [x, y])) fun σ2 H2 => wipe σ2 vs = wipe σ vs ∧ tt σ2 H2 fun b H3 =>
      if b = true then te σ2 H3 fun y H4 => ∃ acc, H4 D = some (.lst acc) ∧ acc.length < sizeLine ∧ Pv (i + 1) (upd H4 D (.lst (acc ++ [y]))) else Pv (i + 1) H3)
    (hd : ∀ H, Pv xs.length H → Qd H) :
    ∃ W : Nat → Nat → Hp → Prop, (∃ m, W 0 m (upd H1 D (.lst []))) ∧ ∀ i m H, W i m H →
      ((Itz K a b).stop i H ∧ Qd H) ∨ ((Itz K a b).go i H ∧ ∃ Nx : Hp → Prop, (∀ H', Nx H' → ∃ m', m' < m ∧ W (i + 1) m' H') ∧ ∀ x H', (Itz K a b).yld i H x H' → g x (wipe σ vs) H' fun σ2 H2 => wipe σ2 vs = wipe σ vs ∧ tt σ2 H2 fun b H3 =>
        if b = true then te σ2 H3 fun y H4 => ∃ acc, H4 D = some (.lst acc) ∧ acc.length < sizeLine ∧ Nx (upd H4 D (.lst (acc ++ [y]))) else Nx H3) := by
  refine ⟨fun i m H => m = xs.length - i ∧ i ≤ xs.length ∧ Pv i H, ⟨xs.length, rfl, Nat.zero_le _, h0⟩, fun i m H z => ?_⟩
  obtain ⟨em, hi, p⟩ := z
  subst em
  obtain ⟨q1, q2⟩ := hq i H hi p
  by_cases hlt : i < xs.length
  · have hlt2 : i < ys.length := hl ▸ hlt
    refine .inr ⟨⟨xs, ys, xs[i], ys[i], q1, q2, List.getElem?_eq_getElem hlt, List.getElem?_eq_getElem hlt2⟩, Pv (i + 1), fun H' p' => ⟨xs.length - (i + 1), by omega, rfl, hlt, p'⟩, fun v H' y => ?_⟩
    obtain ⟨T, x, y', e1, hT, e2, hx, hy⟩ := y
    subst e1 e2
    exact hs i x y' T H (hx xs q1) (hy ys q2) p hT
  · have e : i = xs.length := Nat.le_antisymm hi (Nat.le_of_not_lt hlt)
    subst e
    exact .inl ⟨⟨xs, ys, q1, q2, .inl (Nat.le_refl _)⟩, hd H p⟩
theorem for_enum {K : PySem.W.Frag} {a : Addr} {xs : List V} {g : TG} {tb : TS} {D : Ends} {σ : L2.St} {H : Hp} (Pv : Nat → L2.St → Hp → Prop) (h0 : Pv 0 σ H)
    (hq : ∀ i σ H, i ≤ xs.length → Pv i σ H → SqL K H a xs)
    (hs : ∀ (i : Nat) (x : V) (T : Addr) (σ : L2.St) (H : Hp), xs[i]? = some x → Pv i σ H → H T = none → g (.ref T) σ (upd H T (.tup [.int (i : Nat), x])) fun σ2 H2 => tb { D with nx := Pv (i + 1), ct := Pv (i + 1), bk := D.nx } σ2 H2)
    (hd : ∀ σ H, Pv xs.length σ H → D.nx σ H) :
    ∃ W : Nat → Nat → L2.St → Hp → Prop, (∃ m, W 0 m σ H) ∧ ∀ i m σ H, W i m σ H →
      ((Ite K a).stop i H ∧ D.nx σ H) ∨ ((Ite K a).go i H ∧ ∃ N : L2.St → Hp → Prop, (∀ σ' H', N σ' H' → ∃ m', m' < m ∧ W (i + 1) m' σ' H') ∧ ∀ v H', (Ite K a).yld i H v H' → g v σ H' fun σ2 H2 => tb { D with nx := N, ct := N, bk := D.nx } σ2 H2) := by
  refine ⟨fun i m σ H => m = xs.length - i ∧ i ≤ xs.length ∧ Pv i σ H, ⟨xs.length, rfl, Nat.zero_le _, h0⟩, fun i m σ H z => ?_⟩
  obtain ⟨em, hi, p⟩ := z
  subst em
  have q1 := hq i σ H hi p
  by_cases hlt : i < xs.length
  · refine .inr ⟨⟨xs, xs[i], q1, List.getElem?_eq_getElem hlt⟩, Pv (i + 1), fun σ' H' p' => ⟨xs.length - (i + 1), by omega, rfl, hlt, p'⟩, fun v H' y => ?_⟩
    obtain ⟨T, x, e1, hT, e2, hx⟩ := y
    subst e1 e2
    exact hs i x T σ H (hx xs q1) p hT
  · have e : i = xs.length := Nat.le_antisymm hi (Nat.le_of_not_lt hlt)
    subst e
    exact .inl ⟨⟨xs, q1, Nat.le_refl _⟩, hd σ H p⟩
theorem int_at {ns : List Int} {i : Nat} {x : V} (h : (ivs ns)[i]? = some x) : ∃ z, x = .int z := by
  unfold ivs at h
  rw [List.getElem?_map] at h
  cases e : ns[i]? with
  | none =>
    rw [e] at h
    cases h
  | some z =>
    rw [e] at h
    exact ⟨z, (Option.some.inj h).symm⟩
end Af

set_option Elab.async false
set_option linter.all false
set_option maxRecDepth 100000
namespace Af
open PySem PySem.Spec PyProof.Rows L2
/-! steps and plans as data, equal or not -/
def stepD : Stp → PyData
  | none => .none
  | some (f, ws) => .tuple [.int f, .tuple (dvs ws)]
def stepsD : List Stp → List PyData
  | [] => []
  | a :: r => stepD a :: stepsD r
theorem dp_step {K : PySem.W.Frag} {H : Hp} : ∀ {x : V} {st : Stp}, StepV H x st → Dp K H x (stepD st)
  | _, none, h => by
    have e : _ = V.non := h
    subst e
    exact .non
  | _, some (f, ws), h => by
    obtain ⟨a, b, rfl, h1, h2⟩ := h
    exact .tup (SqT.of h1) (.cons (.int f) (.cons (.tup (SqT.of h2) (dp_ints ws)) .nil))
theorem dp_steps {K : PySem.W.Frag} {H : Hp} : ∀ {xs : List V} {sts : List Stp}, Paired (StepV H) xs sts → DpAll K H xs (stepsD sts)
  | _, _, .nil => .nil
  | _, _, .cons h t => .cons (dp_step h) (dp_steps t)
theorem lay_step : ∀ st : Stp, (stepD st).canLay0 = true ∧ (stepD st).depth ≤ 2
  | none => ⟨rfl, by decide⟩
  | some (f, ws) => by
    refine ⟨?_, ?_⟩
    · show (PyData.canLay0 (.int f) && (PyData.canLayAll0 (dvs ws) && true)) = true
      rw [lay_ints]
      rfl
    · show max (PyData.depth (.int f)) (max (PyData.depthAll (dvs ws) + 1) 0) + 1 ≤ 2
      rw [deep_ints]
      show max 0 (max (0 + 1) 0) + 1 ≤ 2
      decide
theorem lay_steps : ∀ sts : List Stp, PyData.canLayAll0 (stepsD sts) = true ∧ PyData.depthAll (stepsD sts) ≤ 2
  | [] => ⟨rfl, by decide⟩
  | a :: r => by
    obtain ⟨h1, h2⟩ := lay_step a
    obtain ⟨h3, h4⟩ := lay_steps r
    refine ⟨?_, ?_⟩
    · show (PyData.canLay0 (stepD a) && PyData.canLayAll0 (stepsD r)) = true
      rw [h1, h3]
      rfl
    · show max (PyData.depth (stepD a)) (PyData.depthAll (stepsD r)) ≤ 2
      omega
theorem sh_ints (ns : List Int) : SeqAt.shaped (.tuple (dvs ns)) = true := by
  show (PyData.canLayAll0 (dvs ns) && decide (PyData.depthAll (dvs ns) + 1 ≤ 64)) = true
  rw [lay_ints, deep_ints]
  rfl
theorem sh_int (n : Int) : SeqAt.shaped (.int n) = true := rfl
theorem sh_steps (sts : List Stp) : SeqAt.shaped (.list (stepsD sts)) = true := by
  obtain ⟨h1, h2⟩ := lay_steps sts
  show (PyData.canLayAll0 (stepsD sts) && decide (PyData.depthAll (stepsD sts) + 1 ≤ 64)) = true
  rw [h1, decide_eq_true (by omega)]
  rfl
def planD (pl : Pl) : PyData := .tuple [.tuple (dvs pl.cs), .int pl.w, .list (stepsD pl.sts)]
theorem sh_plan (pl : Pl) : SeqAt.shaped (planD pl) = true := by
  obtain ⟨h1, h2⟩ := lay_steps pl.sts
  show ((PyData.canLayAll0 (dvs pl.cs) && (true && (PyData.canLayAll0 (stepsD pl.sts) && true))) && decide (max (PyData.depthAll (dvs pl.cs) + 1) (max 0 (max (PyData.depthAll (stepsD pl.sts) + 1) 0)) + 1 ≤ 64)) = true
  rw [h1, lay_ints, deep_ints, decide_eq_true (by omega)]
  rfl
theorem dp_plan {K : PySem.W.Frag} {H : Hp} {p : Addr} {v : V} {pl : Pl} (h : PlanV p H v pl) : Dp K H v (planD pl) := by
  obtain ⟨a, ca, sa, xs, rfl, h1, h2, _, h3, h4⟩ := h.ex
  exact .tup (SqT.of h1) (.cons (.tup (SqT.of h2) (dp_ints _)) (.cons (.int _) (.cons (.lst (SqL.of h3) (dp_steps h4)) .nil)))
/-- what == of two plans is -/
def samePl (a b : Pl) : Bool := PyData.eqv (.tuple (dvs a.cs)) (.tuple (dvs b.cs)) && (PyData.eqv (.int a.w) (.int b.w) && PyData.eqv (.list (stepsD a.sts)) (.list (stepsD b.sts)))
theorem same_planD (a b : Pl) : PyData.eqv (planD a) (planD b) = samePl a b := by
  show (PyData.eqv (.tuple (dvs a.cs)) (.tuple (dvs b.cs)) && (PyData.eqv (.int a.w) (.int b.w) && (PyData.eqv (.list (stepsD a.sts)) (.list (stepsD b.sts)) && true))) = _
  rw [Bool.and_true]
  rfl
mutual
theorem eqv_comm : ∀ a b : PyData, PyData.eqv a b = PyData.eqv b a
  | .none, b => by cases b <;> rfl
  | .bool x, b => by
    cases b with
    | bool y => cases x <;> cases y <;> rfl
    | int j =>
      show ((if x = true then (1 : Int) else 0) == j) = (j == (if x = true then (1 : Int) else 0))
      exact BEq.comm
    | _ => rfl
  | .int x, b => by
    cases b with
    | int y =>
      show (x == y) = (y == x)
      exact BEq.comm
    | bool y =>
      show (x == (if y = true then (1 : Int) else 0)) = ((if y = true then (1 : Int) else 0) == x)
      exact BEq.comm
    | _ => rfl
  | .str x, b => by
    cases b with
    | str y =>
      show (x == y) = (y == x)
      exact BEq.comm
    | _ => rfl
  | .list xs, b => by
    cases b with
    | list ys => exact eqvAll_comm xs ys
    | _ => rfl
  | .tuple xs, b => by
    cases b with
    | tuple ys => exact eqvAll_comm xs ys
    | _ => rfl
  | .dict xs, b => by cases b <;> rfl
theorem eqvAll_comm : ∀ xs ys : List PyData, PyData.eqvAll xs ys = PyData.eqvAll ys xs
  | [], [] => rfl
  | [], _ :: _ => rfl
  | _ :: _, [] => rfl
  | x :: xs, y :: ys => by
    show (PyData.eqv x y && PyData.eqvAll xs ys) = (PyData.eqv y x && PyData.eqvAll ys xs)
    rw [eqv_comm x y, eqvAll_comm xs ys]
end
theorem same_comm (a b : Pl) : samePl a b = samePl b a := by
  rw [← same_planD, ← same_planD]
  exact eqv_comm _ _
theorem same_refl (a : Pl) : samePl a a = true := by
  rw [← same_planD]
  have := sh_plan a
  exact PySem.SeqAt.eqv_refl _ (Bool.and_eq_true_iff.mp this).1
/-! xs.count(None) -/
def rCntN (K : PySem.W.Frag) : V → List V → Hp → VK → Prop := fun x xs H Q => ∃ (p : Addr) (ys : List V) (ds : List PyData), x = .ref p ∧ xs = [.non] ∧ SqL K H p ys ∧ DpAll K H ys ds ∧ PyData.canLayAll0 ds = true ∧ ∀ n : Nat, Q (.int (n : Nat)) H
theorem mt_countN {X : Cx} (hu : X.A.units + 1 < cLine) : MtR X "list.count" (rCntN X.K) := by
  intro pins s σ H x xs v us Q I rx rxs h
  obtain ⟨p, ys, ds, rfl, rfl, hs, hd, hl, q⟩ := h
  cases (show v = Value.ref p from rx)
  obtain ⟨u, rfl, ru⟩ := rxs.one
  cases (show u = Value.none from ru)
  obtain ⟨its, rv, pl, _⟩ := I.list hs
  obtain ⟨as, rs⟩ := Dp.readsAll I ds ys its hd rv
  refine PySem.SeqAt.count_list_data (d := .none) (vs := its.toArray) pl.isList (by simpa using rs) Reads.none (PyData.plainAll_of_canLay0 _ hl) rfl (by show X.A.units + 1 + min _ 0 < cLine; omega) ?_
  exact ⟨.int (ds.countP (fun y => PyData.eqv y .none) : Nat), H, I.tok _, ⟨_, rfl⟩, q _⟩
/-! xs[::-1] -/
theorem pe_up {X : Cx} {e : Expr} {te : TE} (he : PE X e te) : PE X e (fun σ H R => ∃ R0 : VK, te σ H R0 ∧ ∀ x H1, R0 x H1 → R x H1) := ⟨fun pins s σ H R I q => by
  obtain ⟨R0, q1, q2⟩ := q
  refine thn (he.run pins s σ H R0 I q1) fun v s1 z => ?_
  obtain ⟨x, H1, I1, r1, q⟩ := z
  exact ⟨x, H1, I1, r1, q2 _ _ q⟩⟩
theorem pe_rev' {X : Cx} {e : Expr} {te : TE} {k : Nat} {p1 p2 p3 pos : Pos} (he : PE X e te) : PE X (.Subscript e (.Slice none none (some (.UnaryOp .USub (.Constant (.int 1) k p1) p2)) p3) pos) (tRev' te) := by
  have h := pe_revL (p1 := p1) (p2 := p2) (p3 := p3) (pos := pos) (k := k) (pe_up he)
  refine ⟨fun pins s σ H Q I q => h.run pins s σ H Q I ⟨_, q, fun x H1 z => ?_⟩⟩
  obtain ⟨a, xs, e, ha, q⟩ := z
  exact ⟨a, xs, e, SqL.of ha, q.mk⟩
end Af

set_option Elab.async false
set_option linter.all false
set_option maxRecDepth 100000
namespace Af
open PySem PySem.Spec PyProof.Rows L2
/-! a def that runs where no repr is under way (repr asks it), and repr itself -/
section
variable {P : Program} {w : World} {K : PySem.W.Frag} {mg : Str → Option Value} {base : Heap}
structure FnG (P : Program) (w : World) (K : PySem.W.Frag) (mg : Str → Option Value) (base : Heap) (k : Nat) (f : Addr) (fd : FuncData) (ps : List Str) (sp : Sp) : Prop where
  many : ∀ (xs : List V) (G : Hp) (R : VK) (E : XK), sp xs G R E → xs.length = ps.length
  goes : ∀ (A : Around) (out : List Env) (s : Shared) (G : Hp) (ar : Args) (us : List Value) (xs : List V) (R : VK) (E : XK), Room k A → A.guards = some [] → Env0 P w K mg base A out s G → BindsTo s fd ar (ps.zip us) → Vals xs us → sp xs G R E →
    codeAny (model P w) A (.call (.ref f) ar) (CR CX0 out P w G s R E) s
theorem okG {x qual : Str} {st : Stmt} {f : Addr} {fd : FuncData} {N ps : List Str} {k : Nat} {sp : Sp} (F : Fun K x qual st f fd) (S : FnScope N ps (defScope st)) (many : ∀ (xs : List V) (G : Hp) (R : VK) (E : XK), sp xs G R E → xs.length = ps.length)
    (body : ∀ (cv : Value) (A : Around) (out : List Env) (s : Shared) (G : Hp) (xs : List V) (R : VK) (E : XK), Room k (A.deeper (envOfC qual (defScope st) s.heap.objs.size f cv)) → A.guards = some [] → sp xs G R E →
      ∃ t, PSs (cxOf CX0 P w K mg base N qual (defScope st) f cv A out s G E).nox (defBody st) t ∧ t { nx := fun _ G' => R .non G', rt := R } (L2.start N xs) G) : FnG P w K mg base (k + 1) f fd ps sp := by
  obtain ⟨oc, od, kV, doc, pm, an, cv, ct, osl, rfl, lk, code⟩ := F.ex
  refine ⟨many, fun A out s G ar us xs R E room grd env bind vals hs => ?_⟩
  have nl := many _ _ _ _ hs
  have KI : K.In s.heap := env.mod.kin.keeps fun b o e => (env.bs b o e).1
  have NL : s.heap.NoLimit := env.mod.nolimit.keeps fun b o e => (env.bs b o e).1
  have kinds : ∀ y ∈ ps.zip us, (defScope st).names.lookup y.1 = some .local ∨ ((defScope st).names.lookup y.1 = some .cell ∧ ((cellsFrom (s.heap.objs.size + 1) (defScope st).names []).lookup y.1).isSome = true) := by
    rintro ⟨n, v⟩ hy
    rcases S.par n (List.of_mem_zip hy).1 with q | q
    · exact .inl q
    · exact .inr ⟨q, PySem.W.cellsFrom_some _ _ _ (.inl q)⟩
  refine codeAny_call_function room.depth (KI _ _ lk) rfl S.co S.gen rfl (PySem.W.codeRec_of KI code) (bind _ _ _ _ (wpAny_newFunctionEnv_cells S.kind kinds fun en he s1 z => ?_))
  subst he
  refine ⟨NL.keeps z.toInCall.keep, codeAny_func ?_⟩
  obtain ⟨t, ht, hq⟩ := body cv A out s G xs R E (room.deeper _) grd hs
  have I := inv_start (CX := CX0) (E := E) (N := N) (cd := cv) (f := f) (qual := qual) S room.hd env nl vals z
  refine wpAny_mono (ht.nox.run [] s1 (L2.start N xs) G _ I hq) (fun fl s' hz => ?_) fun e s' hz => hz
  have last : ∀ {σ : L2.St} {G' : Hp} {v : V} {u : Value}, Inv (cxOf CX0 P w K mg base N qual (defScope st) f cv A out s G E) [] σ G' s' → RelV v u → R v G' → CE out P w G s R u s' := fun {σ G' v u} J rv q => ⟨v, G', J.os, J.bare, J.base, J.hok, rv, q⟩
  match fl, hz with
  | .ret u, ⟨v, σ, G', J, rv, q⟩ => exact last J rv q
  | .next, ⟨σ, G', J, q⟩ => exact last (v := V.non) (u := Value.none) J rfl q
  | .brk, ⟨_, _, _, q⟩ => exact q.elim
  | .cont, ⟨_, _, _, q⟩ => exact q.elim
/-- the law, called behind the top -/
theorem callG {P : Program} {w : World} {K : PySem.W.Frag} {mg mb : Str → Option Value} {k : Nat} {fa a : Addr} {fd : FuncData} {x : Str} {sp : Sp} {s : Shared} {us : List Value} {ns : List Int} (KI : K.In s.heap) (hns : s.heap.Ns mainGlobals mg) (hb : s.heap.Ns builtinsNs mb)
    (hbb : ∀ n : Str, n ≠ "__name__" → mb n = bootBuiltins n) (NL : s.heap.NoLimit) (gn : s.gens = #[]) (ha : s.heap.get? a = some { cls := .type "list", data := .seq us.toArray }) (hi : IntsAre us ns) (short : ns.length ≤ sizeLine) (room : Room k callerA)
    (F : ∀ base : Heap, K.In base → base.Ns mainGlobals mg → FnG P w K mg base k fa fd [x] sp) (bind : ∀ (s : Shared) (u : Value), BindsTo s fd ⟨[u], []⟩ [(x, u)])
    (hs : ∀ G : Hp, Only G → SqL K G a (ns.map V.int) → sp [.ref a] G (fun v _ => v = .bl true) fun _ _ _ => False) :
    codeAny (model P w) callerA (.call (.ref fa) ⟨[.ref a], []⟩) (fun r s' => r = .ok (.ret (.bool true)) ∧ OldK s.heap s'.heap ∧ s'.os = s.os ∧ AllBare s'.gens) s := by
  have vals := vals_ints hi
  have many := hi.length
  have main : ∀ G : Hp, Only G → SqL K G a (ns.map V.int) → HOk P w G s.heap → (∀ b, G b ≠ none → b = a) → (G a ≠ none → K.lookup a = none) →
      codeAny (model P w) callerA (.call (.ref fa) ⟨[.ref a], []⟩) (fun r s' => r = .ok (.ret (.bool true)) ∧ OldK s.heap s'.heap ∧ s'.os = s.os ∧ AllBare s'.gens) s := by
    intro G hO hS ok one free
    have keep : ∀ {b : Addr} {o : Obj}, s.heap.get? b = some o → G b = none → (hidT s.heap G).get? b = some o := fun z n => hidT_get z n
    have dicts : ∀ {b : Addr} {o : Obj} {es : Array DictEntry} {ep : Nat}, s.heap.get? b = some o → o.data = .dict es ep → G b = none := by
      intro b o es ep z dz
      cases q : G b with
      | none => rfl
      | some u =>
        have y := one b (by rw [q]; simp)
        subst y
        rw [ha] at z
        cases z
        have dz' : Data.seq us.toArray _ = Data.dict es ep := dz
        cases dz'
    have spaces : ∀ {b : Addr} {m : Str → Option Value}, s.heap.Ns b m → (hidT s.heap G).Ns b m := by
      rintro b m ⟨o, es, ep, z, dz, r⟩
      exact ⟨o, es, ep, keep z (dicts z dz), dz, r⟩
    have KB : K.In (hidT s.heap G) := by
      intro b o z
      refine keep (KI b o z) ?_
      cases q : G b with
      | none => rfl
      | some u =>
        have y := one b (by rw [q]; simp)
        subst y
        rw [free (by rw [q]; simp)] at z
        cases z
    have env : Env0 P w K mg (hidT s.heap G) callerA [] s G := by
      refine ⟨rfl, ⟨KB, spaces hns, ⟨mb, spaces hb, hbb⟩, ?_⟩, fun b o z => of_hidT z, Nat.le_of_eq (hidT_size _ _), trivial, fun b z => absurd (show b ∈ ([] : List Addr) from z) (by simp), ok, .of_eq gn⟩
      obtain ⟨mc, y1, y2⟩ := NL
      exact ⟨mc, spaces y1, y2⟩
    refine codeAny_mono ((F _ KB (spaces hns)).goes callerA [] s G ⟨[.ref a], []⟩ [.ref a] [.ref a] _ _ room rfl env (bind s (.ref a)) (.cons rfl .nil) (hs G hO hS)) fun r s' z => ?_
    match r, z with
    | .ok (.ret u), z =>
      obtain ⟨v, G', hos, bare, un, ok', rv, q⟩ := z
      have q' : v = .bl true := q
      subst q'
      obtain rfl : u = Value.bool true := rv
      refine ⟨rfl, OldK.of_keep fun b o y => ?_, hos, bare⟩
      cases q : G b with
      | none => exact un.keep b o y q (by intro m; exact absurd (show b ∈ ([] : List Addr) from m) (by simp)) (by simp)
      | some u =>
        rcases hO b with z | ⟨ob, xs, z⟩
        · rw [q] at z
          cases z
        · obtain ⟨y1, _⟩ := ok b _ z
          obtain ⟨y2, _⟩ := ok' b _ (un.frzs b ob _ z)
          rw [y] at y1
          cases y1
          exact y2
    | .error e, z => exact (show False from z).elim
    | .ok .next, z => exact (show False from z).elim
    | .ok .brk, z => exact (show False from z).elim
    | .ok .cont, z => exact (show False from z).elim
  cases hk : K.lookup a with
  | some o =>
    have z := KI a o hk
    rw [ha] at z
    cases z
    exact main (fun _ => none) (fun _ => .inl rfl) (.inr ⟨_, us.toArray, _, hk, rfl, rfl, rfl, by rw [List.size_toArray, many]; exact short, by simpa using vals⟩) (fun b u y => by cases (show (none : Option HO) = some u from y)) (fun b y => absurd rfl y) fun y => absurd rfl y
  | none =>
    have at_ : ∀ {b : Addr} {u : HO}, (if b = a then some (HO.frz { cls := .type "list", data := .seq us.toArray } (.lst (ns.map V.int))) else none) = some u → b = a ∧ u = .frz { cls := .type "list", data := .seq us.toArray } (.lst (ns.map V.int)) := by
      intro b u y
      by_cases q : b = a
      · rw [if_pos q] at y
        exact ⟨q, (Option.some.inj y).symm⟩
      · rw [if_neg q] at y
        cases y
    refine main (fun b => if b = a then some (.frz { cls := .type "list", data := .seq us.toArray } (.lst (ns.map V.int))) else none) (fun b => ?_) (.inl (.inr ⟨{ cls := .type "list", data := .seq us.toArray }, if_pos rfl⟩)) (fun b u y => ?_) (fun b y => ?_) fun _ => hk
    · by_cases q : b = a
      · exact .inr ⟨_, _, if_pos q⟩
      · exact .inl (if_neg q)
    · obtain ⟨rfl, rfl⟩ := at_ y
      exact ⟨ha, by rw [List.length_map]; exact short, us, _, vals, ha⟩
    · by_cases q : b = a
      · exact q
      · exact absurd (if_neg q) y
theorem walkG {l : PySem.W.OpenLaw} {n k : Nat} {q : Program} {loose : List Str} {XP : (Str → Option Value) → Heap → Prop} {YP : World → Heap → Prop} {d : DefRec} {K : Params → PySem.W.Frag} {sp : World → Sp} {x : Str} (hn : l.most = some n) (small : n ≤ sizeLine) (hd : d.params.defaults = []) (room : Room k callerA)
    (hY : ∀ (w : World) (h : Heap), YP w h → (K w.params).In h)
    (F : ∀ (w : World) (mg : Str → Option Value) (fa : Addr) (h : Heap), (K w.params).In h → h.Ns mainGlobals mg → mg d.name = some (.ref fa) →
      ∃ fd : FuncData, (∀ (s : Shared) (u : Value), BindsTo s fd ⟨[u], []⟩ [(x, u)]) ∧ ∀ base : Heap, (K w.params).In base → base.Ns mainGlobals mg → FnG l.prog w (K w.params) mg base k fa fd [x] (sp w))
    (hs : ∀ (w : World) (G : Hp) (a : Addr) (ns : List Int), ns.length ≤ n → Only G → SqL (K w.params) G a (ns.map V.int) → sp w [.ref a] G (fun v _ => v = .bl true) fun _ _ _ => False) :
    PySem.W.WalkO q loose XP YP l.row.toRowW d [] (fun f vs => PySem.call f vs) := by
  refine Att.attach_call hn hd fun w s₀ s₁ mg mb fa o pm cd doc a us ns G Y ho hq hcd hmg hobj hints hlen hg => ?_
  have KI := hY w _ Y
  obtain ⟨fd, hb, hF⟩ := F w mg fa _ KI G.T.g hmg
  exact callG KI G.T.g G.T.b G.T.builtins G.T.nolimit hg hobj hints (Nat.le_trans hlen small) room hF hb fun H hO hS => hs w H a ns hlen hO hS
end
end Af

set_option Elab.async false
set_option linter.all false
set_option maxRecDepth 100000
namespace Af
open PySem PySem.Spec PyProof.Rows L2
/-! data with empty dicts within, and its repr -/
mutual
inductive Dq (K : PySem.W.Frag) (H : Hp) : V → PyData → Prop
  | non : Dq K H .non .none
  | bl (b : Bool) : Dq K H (.bl b) (.bool b)
  | int (i : Int) : Dq K H (.int i) (.int i)
  | str (x : Str) : Dq K H (.str x) (.str x)
  | lst {a : Addr} {xs : List V} {ds : List PyData} : H a = some (.lst xs) → DqAll K H xs ds → Dq K H (.ref a) (.list ds)
  | tup {a : Addr} {xs : List V} {ds : List PyData} : H a = some (.tup xs) → DqAll K H xs ds → Dq K H (.ref a) (.tuple ds)
  | dic {a : Addr} : H a = some (.dK []) → Dq K H (.ref a) (.dict [])
inductive DqAll (K : PySem.W.Frag) (H : Hp) : List V → List PyData → Prop
  | nil : DqAll K H [] []
  | cons {v : V} {vs : List V} {d : PyData} {ds : List PyData} : Dq K H v d → DqAll K H vs ds → DqAll K H (v :: vs) (d :: ds)
end
section
variable {X : Cx} {pins : List (Addr × Obj)} {σ : L2.St} {H : Hp} {s : Shared}
mutual
/-- such data is read, and shown whatever calls are under way -/
theorem Dq.sees (I : Inv X pins σ H s) : ∀ (d : PyData) (v : V) (u : Value), Dq X.K H v d → RelV v u → d.showable = true → d.shown.length ≤ sizeLine →
    ∃ as bs, Reads s.heap u d as ∧ ReadAtMost s.heap d.depth bs ∧ ReprK X.prog X.w bs s.heap d.depth u d.shown
  | .none, _, _, h, r, sh, sz => by
    cases h
    cases r
    obtain ⟨bs, h1, h2⟩ := ReprK.of_reads (prog := X.prog) (w := X.w) (h₀ := s.heap) Reads.none sh (fun z => by cases z) sz
    exact ⟨_, bs, Reads.none, h1, h2⟩
  | .bool b, _, _, h, r, sh, sz => by
    cases h
    cases r
    obtain ⟨bs, h1, h2⟩ := ReprK.of_reads (prog := X.prog) (w := X.w) (h₀ := s.heap) (Reads.bool b) sh (fun z => by cases z) sz
    exact ⟨_, bs, Reads.bool b, h1, h2⟩
  | .int i, _, _, h, r, sh, sz => by
    cases h
    obtain ⟨t, rfl⟩ := r
    obtain ⟨bs, h1, h2⟩ := ReprK.of_reads (prog := X.prog) (w := X.w) (h₀ := s.heap) (Reads.int i t) sh (fun z => by cases z) sz
    exact ⟨_, bs, Reads.int i t, h1, h2⟩
  | .str x, _, _, h, r, sh, sz => by
    cases h
    obtain ⟨t, rfl⟩ := r
    obtain ⟨bs, h1, h2⟩ := ReprK.of_reads (prog := X.prog) (w := X.w) (h₀ := s.heap) (Reads.str x t) sh (fun z => by cases z) sz
    exact ⟨_, bs, Reads.str x t, h1, h2⟩
  | .list ds, _, _, h, r, sh, sz => by
    cases h with
    | @lst a xs _ hs ha =>
      cases r
      obtain ⟨its, rv, ⟨o, n, ho, hc, _, hd⟩, _⟩ := I.list (SqL.of hs)
      have sz' : (listText (PyData.shownAll ds)).length ≤ sizeLine := by simpa only [PyData.shown] using sz
      obtain ⟨as, bs, hr, hb, hk⟩ := Dq.seesAll I ds _ its ha rv (by simpa [PyData.showable] using sh) fun t ht => Nat.le_trans (listText_mem_le ht) sz'
      have rd : Reads s.heap (.ref a) (.list ds) _ := .list ho hc hd hr
      have new : a ∉ bs := not_mem_of_deeper rd (by simp only [PyData.depth]; omega) hb
      refine ⟨_, a :: bs, rd, ReadAtMost.cons rd (by simp only [PyData.depth]; omega) hb, ?_⟩
      simp only [PyData.depth, PyData.shown]
      cases its with
      | nil =>
        cases hr
        simp only [PyData.shownAll, listText_nil]
        exact ReprK.listEmpty ho hc hd
      | cons x l => exact ReprK.list ho hc hd new (by simpa using hk.length_eq) fun i y e => hk.item i y (by simpa using e)
  | .tuple ds, _, _, h, r, sh, sz => by
    cases h with
    | @tup a xs _ hs ha =>
      cases r
      obtain ⟨its, rv, ⟨o, ho, hc, n, hd⟩, _⟩ := I.tuple (SqT.of hs)
      have sz' : (tupleText (PyData.shownAll ds)).length ≤ sizeLine := by simpa only [PyData.shown] using sz
      obtain ⟨as, bs, hr, hb, hk⟩ := Dq.seesAll I ds _ its ha rv (by simpa [PyData.showable] using sh) fun t ht => Nat.le_trans (tupleText_mem_le ht) sz'
      have rd : Reads s.heap (.ref a) (.tuple ds) _ := .tuple ho hc hd hr
      have new : a ∉ bs := not_mem_of_deeper rd (by simp only [PyData.depth]; omega) hb
      refine ⟨_, a :: bs, rd, ReadAtMost.cons rd (by simp only [PyData.depth]; omega) hb, ?_⟩
      simp only [PyData.depth, PyData.shown]
      exact ReprK.tuple ho hc hd new hk
  | .dict kvs, _, _, h, r, sh, sz => by
    cases h with
    | @dic a ha =>
      cases r
      obtain ⟨_, hne, vs, rv, o, es, ep, h1, h2, h3, _, h4, _⟩ := dk_of I.hok ha
      cases rv
      have e : es.toList = [] := by
        cases q : es.toList with
        | nil => rfl
        | cons y l =>
          rw [q] at h4
          cases h4
      have rd : Reads s.heap (.ref a) (.dict []) ([a] ++ []) := Reads.dict (kvs := []) (as := []) (bs := []) h1 h2.1 h3 (by rw [e]; exact .nil) (by rw [e]; exact .nil)
      obtain ⟨bs, h5, h6⟩ := ReprK.of_reads (prog := X.prog) (w := X.w) (h₀ := s.heap) rd sh (fun _ z => by
        have z' : sysModules ∈ [a] := z
        rw [← List.mem_singleton.mp z'] at hne
        exact absurd hne (by simp)) sz
      exact ⟨_, bs, rd, h5, h6⟩
theorem Dq.seesAll (I : Inv X pins σ H s) : ∀ (ds : List PyData) (vs : List V) (us : List Value), DqAll X.K H vs ds → Vals vs us → PyData.showableAll ds = true → (∀ t ∈ PyData.shownAll ds, t.length ≤ sizeLine) →
    ∃ as bs, ReadsAll s.heap us ds as ∧ ReadAtMost s.heap (PyData.depthAll ds) bs ∧ ReprAllK X.prog X.w bs s.heap (PyData.depthAll ds) us (PyData.shownAll ds)
  | [], _, _, h, r, _, _ => by
    cases h
    cases r
    refine ⟨_, [], ReadsAll.nil, ⟨fun b z => (by simp at z), ?_⟩⟩
    simp only [PyData.shownAll]
    exact .nil
  | d :: ds, _, _, h, r, sh, sz => by
    cases h with
    | cons h1 h2 =>
      cases r with
      | cons r1 r2 =>
        have sh' : d.showable = true ∧ PyData.showableAll ds = true := by simpa [PyData.showableAll] using sh
        obtain ⟨a1, b1, q1, m1, k1⟩ := Dq.sees I d _ _ h1 r1 sh'.1 (sz _ (by simp only [PyData.shownAll]; exact List.mem_cons_self))
        obtain ⟨a2, b2, q2, m2, k2⟩ := Dq.seesAll I ds _ _ h2 r2 sh'.2 fun t ht => sz t (by simp only [PyData.shownAll]; exact List.mem_cons_of_mem _ ht)
        refine ⟨_, b1 ++ b2, ReadsAll.cons q1 q2, fun b hb => ?_, ?_⟩
        · simp only [PyData.depthAll]
          rcases List.mem_append.mp hb with hb | hb
          · obtain ⟨d', a', r', y⟩ := m1 b hb
            exact ⟨d', a', r', by omega⟩
          · obtain ⟨d', a', r', y⟩ := m2 b hb
            exact ⟨d', a', r', by omega⟩
        · simp only [PyData.depthAll, PyData.shownAll]
          refine .cons ((k1.more fun b hb => List.mem_append.mpr (.inl hb)).level_le (by omega)) (k2.more_le (fun b hb => List.mem_append.mpr (.inr hb)) (by omega))
end
def rRepr (K : PySem.W.Frag) : List V → Hp → VK → Prop := fun xs H Q => ∃ (a : Addr) (vs : List V) (ds : List PyData), xs = [.ref a] ∧ H a = some (.tup vs) ∧ DqAll K H vs ds ∧ PyData.showableAll ds = true ∧ PyData.depthAll ds ≤ 60 ∧ (PyData.tuple ds).shown.length ≤ sizeLine ∧ Q (.str (PyData.tuple ds).shown) H
/-- repr of a tuple of data -/
theorem call_repr' (hg : X.A.guards = some []) (hu : X.A.units + 64 < cLine) : CallR X (.builtin "repr") (rRepr X.K) := by
  intro pins s σ H xs us Q I r h
  obtain ⟨a, vs, ds, rfl, hs, hd, sh, dp, sz, q⟩ := h
  obtain ⟨u, rfl, ru⟩ := vals1 r
  cases (show u = Value.ref a from ru)
  obtain ⟨its, rv, ⟨o, ho, hc, n, hdd⟩, _⟩ := I.tuple (SqT.of hs)
  have sz' : (tupleText (PyData.shownAll ds)).length ≤ sizeLine := by simpa only [PyData.shown] using sz
  obtain ⟨as, bs, hr, hb, hk⟩ := Dq.seesAll I ds vs its hd rv sh fun t ht => Nat.le_trans (tupleText_mem_le ht) sz'
  have rd : Reads s.heap (.ref a) (.tuple ds) _ := .tuple ho hc hdd hr
  have new : a ∉ bs := not_mem_of_deeper rd (by simp only [PyData.depth]; omega) hb
  refine call_repr_slot (T := "tuple") (by omega) ⟨o, ho, hc⟩ PySem.F.slot_tuple_repr (call_tuple_reprK ho hc hdd new hk hg (fun b _ => Clear.nil b) (by show X.A.units + 1 + (PyData.depthAll ds + 1) < cLine; omega) (fun _ _ e => e) (fun h' u tk keep => ?_) sz')
  refine ⟨_, _, rfl, .str (PyData.tuple ds).shown, H, I.kept keep, ⟨u, ?_⟩, q⟩
  simp only [PyData.shown]
end
end Af

set_option Elab.async false
set_option linter.all false
set_option maxRecDepth 100000
namespace Af
open PySem PySem.Spec PyProof.Rows L2
/-! what the program's questions answer, told of data -/
def idxD (m : Int) : PyData → Bool
  | .int i => decide (0 ≤ i) && decide (i < m)
  | _ => false
def widthD : PyData → Bool
  | .int i => decide (1 ≤ i) && decide (i ≤ 24)
  | _ => false
def worthsD : PyData → Bool
  | .tuple ds => !ds.isEmpty && ds.all (idxD 8)
  | _ => false
def lenD : PyData → Nat
  | .tuple ds => ds.length
  | .list ds => ds.length
  | _ => 0
def contentD (d : PyData) : Bool := worthsD d && decide (lenD d ≤ 24)
def addD (m : Int) (n : Nat) : PyData → Bool
  | .int i => decide (i + (n : Int) ≤ m)
  | _ => false
def stepQ (m : Int) : PyData → Bool
  | .none => true
  | .tuple [f, ws] => idxD m f && worthsD ws && addD m (lenD ws) f
  | _ => false
def stepsQ (m : Int) : PyData → Bool
  | .list ds => ds.all (stepQ m)
  | _ => false
section
variable {K : PySem.W.Frag} {H : Hp}
theorem DqAll.len : ∀ {xs : List V} {ds : List PyData}, DqAll K H xs ds → xs.length = ds.length
  | _, _, .nil => rfl
  | _, _, .cons _ t => by
    rw [List.length_cons, List.length_cons, t.len]
theorem dq_idx {x : V} {d : PyData} (h : Dq K H x d) (m : Int) : idxB m x = idxD m d := by
  cases h <;> rfl
theorem dq_width {x : V} {d : PyData} (h : Dq K H x d) : widthB x = widthD d := by
  cases h <;> rfl
theorem dq_add {x : V} {d : PyData} (h : Dq K H x d) (m : Int) (n : Nat) : addB m n x = addD m n d := by
  cases h <;> rfl
theorem dq_all {m : Int} : ∀ {xs : List V} {ds : List PyData}, DqAll K H xs ds → xs.all (idxB m) = ds.all (idxD m)
  | _, _, .nil => rfl
  | _, _, .cons h t => by
    rw [List.all_cons, List.all_cons, dq_all t, dq_idx h]
theorem dq_empty {xs : List V} {ds : List PyData} (h : DqAll K H xs ds) : xs.isEmpty = ds.isEmpty := by
  cases h <;> rfl
theorem dq_len {x : V} {d : PyData} (h : Dq K H x d) : lenB H x = lenD d := by
  cases h with
  | lst e t => simp only [lenB, e, lenD]; exact t.len
  | tup e t => simp only [lenB, e, lenD]; exact t.len
  | dic e => simp only [lenB, e, lenD]
  | _ => rfl
theorem dq_worths {x : V} {d : PyData} (h : Dq K H x d) : worthsB H x = worthsD d := by
  cases h with
  | lst e t => simp only [worthsB, e, worthsD]
  | tup e t => simp only [worthsB, e, worthsD]; rw [dq_empty t, dq_all t]
  | dic e => simp only [worthsB, e, worthsD]
  | _ => rfl
theorem dq_content {x : V} {d : PyData} (h : Dq K H x d) : contentB H x = contentD d := by
  unfold contentB contentD
  rw [dq_worths h, dq_len h]
theorem dq_step {x : V} {d : PyData} (h : Dq K H x d) (m : Int) : stepB H m x = stepQ m d := by
  cases h with
  | non => rfl
  | lst e t => simp only [stepB, e, stepQ]
  | dic e => simp only [stepB, e, stepQ]
  | tup e t =>
    cases t with
    | nil => simp only [stepB, e, stepQ]
    | cons h1 t =>
      cases t with
      | nil => simp only [stepB, e, stepQ]
      | cons h2 t =>
        cases t with
        | nil =>
          simp only [stepB, e, stepQ]
          rw [dq_idx h1, dq_worths h2, dq_len h2, dq_add h1]
        | cons h3 t => simp only [stepB, e, stepQ]
  | _ => rfl
theorem dq_stepAll {m : Int} : ∀ {xs : List V} {ds : List PyData}, DqAll K H xs ds → xs.all (stepB H m) = ds.all (stepQ m)
  | _, _, .nil => rfl
  | _, _, .cons h t => by
    rw [List.all_cons, List.all_cons, dq_stepAll t, dq_step h]
theorem dq_steps {x : V} {d : PyData} (h : Dq K H x d) (m : Int) : stepsB H m x = stepsQ m d := by
  cases h with
  | lst e t => simp only [stepsB, e, stepsQ]; exact dq_stepAll t
  | tup e t => simp only [stepsB, e, stepsQ]
  | dic e => simp only [stepsB, e, stepsQ]
  | _ => rfl
theorem dq_ty {x : V} {d : PyData} (h : Dq K H x d) : ∃ n, Ty K H x n := by
  cases h with
  | non => exact ⟨_, .non, by decide, fun _ _ _ e => by cases e⟩
  | bl b => exact ⟨_, .bl b, by decide, fun _ _ _ e => by cases e⟩
  | int i => exact ⟨_, .int i, by decide, fun _ _ _ e => by cases e⟩
  | str z => exact ⟨_, .str z, by decide, fun _ _ _ e => by cases e⟩
  | lst e t => exact ⟨_, .lst e, by decide, fun b o u z q => by cases z; rw [e] at q; cases q⟩
  | tup e t => exact ⟨_, .tup e, by decide, fun b o u z q => by cases z; rw [e] at q; cases q⟩
  | dic e => exact ⟨_, .dK e, by decide, fun b o u z q => by cases z; rw [e] at q; cases q⟩
theorem DqAll.mem : ∀ {xs : List V} {ds : List PyData} {y : V}, DqAll K H xs ds → y ∈ xs → ∃ d, d ∈ ds ∧ Dq K H y d
  | _, _, _, .nil, h => by simp at h
  | _, _, y, .cons r t, h => by
    rcases List.mem_cons.mp h with rfl | h
    · exact ⟨_, List.mem_cons_self, r⟩
    · obtain ⟨d, h1, h2⟩ := t.mem h
      exact ⟨d, List.mem_cons_of_mem _ h1, h2⟩
mutual
theorem Dq.same {H' : Hp} (s : Same H H') : ∀ (d : PyData) (x : V), Dq K H x d → Dq K H' x d
  | .none, _, h => by cases h; exact .non
  | .bool _, _, h => by cases h; exact .bl _
  | .int _, _, h => by cases h; exact .int _
  | .str _, _, h => by cases h; exact .str _
  | .list ds, _, h => by
    cases h with
    | lst e t => exact .lst (s _ _ e) (DqAll.same s ds _ t)
  | .tuple ds, _, h => by
    cases h with
    | tup e t => exact .tup (s _ _ e) (DqAll.same s ds _ t)
  | .dict _, _, h => by
    cases h with
    | dic e => exact .dic (s _ _ e)
theorem DqAll.same {H' : Hp} (s : Same H H') : ∀ (ds : List PyData) (xs : List V), DqAll K H xs ds → DqAll K H' xs ds
  | [], _, h => by cases h; exact .nil
  | d :: ds, _, h => by
    cases h with
    | cons h1 h2 => exact .cons (Dq.same s d _ h1) (DqAll.same s ds _ h2)
end
/-! small data: to a depth, lists and tuples of at most 45 parts, short texts -/
def flatD : PyData → Bool
  | .none | .bool _ => true
  | .int i => decide (i.natAbs.log2 < 1920) && decide ((toString i : Str).length ≤ 45)
  | .str x => decide ((reprText x).length ≤ 45)
  | .dict kvs => kvs.isEmpty
  | _ => false
def Sm : Nat → PyData → Prop
  | 0, d => flatD d = true
  | n + 1, d => flatD d = true ∨ ∃ ds, (d = .list ds ∨ d = .tuple ds) ∧ ds.length ≤ 45 ∧ ∀ y ∈ ds, Sm n y
theorem Sm.mono {d : PyData} : ∀ {n : Nat}, Sm n d → Sm (n + 1) d
  | 0, h => .inl h
  | n + 1, h => by
    rcases h with h | ⟨ds, h1, h2, h3⟩
    · exact .inl h
    · exact .inr ⟨ds, h1, h2, fun y hy => (h3 y hy).mono⟩
theorem dq_th : ∀ {n : Nat} {x : V} {d : PyData}, Dq K H x d → Sm n d → Th K H n x
  | 0, _, _, h, _ => dq_ty h
  | n + 1, x, d, h, sm => by
    refine ⟨dq_ty h, fun a xs e z => ?_⟩
    subst e
    have key : ∀ ds, DqAll K H xs ds → (d = .list ds ∨ d = .tuple ds) → xs.length ≤ 100000 ∧ ∀ y ∈ xs, Th K H n y := fun ds t q => by
      rcases sm with f | ⟨es, h1, h2, h3⟩
      · rcases q with rfl | rfl <;> cases f
      · have e : es = ds := by
          rcases q with rfl | rfl <;> rcases h1 with h1 | h1 <;> cases h1 <;> rfl
        subst e
        refine ⟨by rw [t.len]; omega, fun y hy => ?_⟩
        obtain ⟨d', m1, m2⟩ := t.mem hy
        exact dq_th m2 (h3 d' m1)
    cases h with
    | lst e t =>
      rcases z with z | z
      · rw [e] at z; cases z
      · rw [e] at z; cases z; exact key _ t (.inl rfl)
    | tup e t =>
      rcases z with z | z
      · rw [e] at z; cases z; exact key _ t (.inr rfl)
      · rw [e] at z; cases z
    | dic e => rcases z with z | z <;> (rw [e] at z; cases z)
end
def bnd : Nat → Nat
  | 0 => 45
  | n + 1 => 45 * bnd n + 93
theorem bnd_le (n : Nat) : bnd n ≤ bnd (n + 1) := by
  show bnd n ≤ 45 * bnd n + 93
  omega
theorem flat_len {d : PyData} (h : flatD d = true) : d.shown.length ≤ 45 ∧ d.showable = true ∧ d.depth ≤ 1 := by
  cases d with
  | none => exact ⟨by decide, rfl, by decide⟩
  | bool b => cases b <;> exact ⟨by decide, rfl, by decide⟩
  | int i =>
    have h' : (decide (i.natAbs.log2 < 1920) && decide ((toString i : Str).length ≤ 45)) = true := h
    rw [Bool.and_eq_true] at h'
    refine ⟨?_, ?_, Nat.zero_le _⟩
    · simp only [PyData.shown]
      exact of_decide_eq_true h'.2
    · simp only [PyData.showable]
      exact h'.1
  | str x =>
    refine ⟨?_, by simp only [PyData.showable], Nat.zero_le _⟩
    simp only [PyData.shown]
    exact of_decide_eq_true h
  | dict kvs =>
    cases kvs with
    | nil => exact ⟨by decide +kernel, by simp only [PyData.showable, PyData.showableKv], by decide⟩
    | cons a b => cases h
  | list ds => cases h
  | tuple ds => cases h
theorem sum_le {b : Nat} : ∀ {ts : List Str}, (∀ t ∈ ts, t.length ≤ b) → (ts.map (·.length)).sum ≤ b * ts.length
  | [], _ => Nat.zero_le _
  | t :: ts, h => by
    have h1 := h t List.mem_cons_self
    have h2 := sum_le (b := b) (ts := ts) fun y hy => h y (List.mem_cons_of_mem _ hy)
    rw [List.map_cons, List.sum_cons, List.length_cons, Nat.mul_succ]
    omega
theorem shownAll_mem : ∀ {ds : List PyData} {t : Str}, t ∈ PyData.shownAll ds → ∃ d ∈ ds, d.shown = t
  | [], t, h => by
    simp only [PyData.shownAll] at h
    cases h
  | d :: ds, t, h => by
    simp only [PyData.shownAll] at h
    rcases List.mem_cons.mp h with h | h
    · exact ⟨d, List.mem_cons_self, h.symm⟩
    · obtain ⟨e, h1, h2⟩ := shownAll_mem h
      exact ⟨e, List.mem_cons_of_mem _ h1, h2⟩
theorem shownAll_len : ∀ ds : List PyData, (PyData.shownAll ds).length = ds.length
  | [] => by simp only [PyData.shownAll, List.length_nil]
  | d :: ds => by simp only [PyData.shownAll, List.length_cons, shownAll_len ds]
theorem showAll_of : ∀ {ds : List PyData}, (∀ d ∈ ds, d.showable = true) → PyData.showableAll ds = true
  | [], _ => by simp only [PyData.showableAll]
  | d :: ds, h => by
    simp only [PyData.showableAll, h d List.mem_cons_self, showAll_of fun y hy => h y (List.mem_cons_of_mem _ hy), Bool.and_self]
theorem depthAll_of {n : Nat} : ∀ {ds : List PyData}, (∀ d ∈ ds, d.depth ≤ n) → PyData.depthAll ds ≤ n
  | [], _ => Nat.zero_le _
  | d :: ds, h => by
    have h1 := h d List.mem_cons_self
    have h2 := depthAll_of (n := n) (ds := ds) fun y hy => h y (List.mem_cons_of_mem _ hy)
    show max d.depth (PyData.depthAll ds) ≤ n
    omega
theorem texts_le {b : Nat} {ds : List PyData} (h : ∀ d ∈ ds, d.shown.length ≤ b) : (listText (PyData.shownAll ds)).length ≤ b * ds.length + 2 * ds.length + 3 ∧ (tupleText (PyData.shownAll ds)).length ≤ b * ds.length + 2 * ds.length + 3 := by
  have q : ((PyData.shownAll ds).map (·.length)).sum ≤ b * (PyData.shownAll ds).length := sum_le fun t ht => by
    obtain ⟨d, h1, h2⟩ := shownAll_mem ht
    rw [← h2]
    exact h d h1
  have l := shownAll_len ds
  rw [l] at q
  have h1 := listText_len_le (PyData.shownAll ds)
  have h2 := tupleText_len_le (PyData.shownAll ds)
  rw [l] at h1 h2
  exact ⟨by omega, by omega⟩
theorem Sm.text : ∀ {n : Nat} {d : PyData}, Sm n d → d.shown.length ≤ bnd n ∧ d.showable = true ∧ d.depth ≤ n + 1
  | 0, d, h => flat_len h
  | n + 1, d, h => by
    rcases h with h | ⟨ds, h1, h2, h3⟩
    · obtain ⟨q1, q2, q3⟩ := flat_len h
      refine ⟨?_, q2, by omega⟩
      show _ ≤ 45 * bnd n + 93
      omega
    · have k : ∀ y ∈ ds, y.shown.length ≤ bnd n ∧ y.showable = true ∧ y.depth ≤ n + 1 := fun y hy => (h3 y hy).text
      obtain ⟨t1, t2⟩ := texts_le fun y hy => (k y hy).1
      have e : bnd n * ds.length ≤ bnd n * 45 := Nat.mul_le_mul_left _ h2
      have s := showAll_of fun y hy => (k y hy).2.1
      have p := depthAll_of fun y hy => (k y hy).2.2
      have u : bnd (n + 1) = 45 * bnd n + 93 := rfl
      rcases h1 with rfl | rfl
      · refine ⟨?_, by simpa only [PyData.showable] using s, by simp only [PyData.depth]; omega⟩
        simp only [PyData.shown]
        omega
      · refine ⟨?_, by simpa only [PyData.showable] using s, by simp only [PyData.depth]; omega⟩
        simp only [PyData.shown]
        omega
/-- three parts of small data can be shown -/
theorem three_text {a b c : PyData} (h1 : Sm 3 a) (h2 : Sm 3 b) (h3 : Sm 3 c) : PyData.showableAll [a, b, c] = true ∧ PyData.depthAll [a, b, c] ≤ 60 ∧ (PyData.tuple [a, b, c]).shown.length ≤ sizeLine := by
  have k : ∀ y ∈ [a, b, c], y.shown.length ≤ bnd 3 ∧ y.showable = true ∧ y.depth ≤ 4 := fun y hy => by
    simp only [List.mem_cons, List.not_mem_nil, or_false] at hy
    rcases hy with rfl | rfl | rfl
    · exact h1.text
    · exact h2.text
    · exact h3.text
  refine ⟨showAll_of fun y hy => (k y hy).2.1, Nat.le_trans (depthAll_of fun y hy => (k y hy).2.2) (by decide), ?_⟩
  simp only [PyData.shown]
  obtain ⟨_, t⟩ := texts_le fun y hy => (k y hy).1
  exact Nat.le_trans t (by show bnd 3 * 3 + 2 * 3 + 3 ≤ sizeLine; decide)
end Af

set_option Elab.async false
set_option linter.all false
set_option maxRecDepth 100000
namespace Af
open PySem PySem.Spec PyProof.Rows L2
/-! an object made where an exception is caught -/
section
variable {X : Cx} {CX : CXT} {k : Nat} {f C : Addr} {fd : FuncData} {ps : List Str} {sp : Sp} {E : L2.St → XK} {x : Str} {p pos : Pos} {e : Expr} {es : List Expr} {t : TA}
def tMakeS (C : Addr) (sp : Sp) (E : L2.St → XK) (t : TA) : TE := fun σ H Q => t σ H fun vs G => ∀ a d, G a = none → G d = none → d ≠ a → sp (.ref a :: vs) (upd (upd G d (.own a)) a (.ins C d [])) (fun v G' => v = .non ∧ Q (.ref a) G') (E σ)
theorem run_makeS {pins : List (Addr × Obj)} {σ : L2.St} {H : Hp} {s : Shared} {Q : VK} {us : List Value} {vs : List V} (M : Mk X.K C f) (F : FnOk X.prog X.w X.K X.mg X.base CX k f fd ps sp) (room : Room (k + 1) X.A) (b : Binds X.K fd ps []) (out : PassesAt CX X σ (E σ)) (I : Inv X pins σ H s) (r : Vals vs us)
    (h : ∀ a d, H a = none → H d = none → d ≠ a → sp (.ref a :: vs) (upd (upd H d (.own a)) a (.ins C d [])) (fun v G => v = .non ∧ Q (.ref a) G) (E σ)) : wpAny (model X.prog X.w) X.A (call (.ref C) us) (EP X pins σ Q) X.xe s := by
  have q := h (s.heap.objs.size + 1) s.heap.objs.size (I.hok.fresh (Nat.le_succ _)) (I.hok.fresh (Nat.le_refl _)) (Nat.ne_of_lt (Nat.lt_succ_self _))
  have J := Inv.made (C := C) I
  have rr : Vals (V.ref (s.heap.objs.size + 1) :: vs) (Value.ref (s.heap.objs.size + 1) :: us) := .cons rfl r
  have nl : (Value.ref (s.heap.objs.size + 1) :: us).length = ps.length := by
    rw [← rr.length]
    exact F.len _ _ _ _ q
  have bb := b _ (Value.ref (s.heap.objs.size + 1) :: us) J.kIn (by rw [List.append_nil]; exact nl)
  rw [List.append_nil] at bb
  refine wpAny_call (make_map (f := f) I.kIn M.makes M.init (beq_iff_eq.mp M.fn) (codeAny_mono (F.run _ X.stack _ _ ⟨Value.ref (s.heap.objs.size + 1) :: us, []⟩ (Value.ref (s.heap.objs.size + 1) :: us) _ _ (E σ) (room.make C us []) (J.env0.make C us []) bb rr q) fun r s' z => ?_))
  match r, z with
  | .error e, z => exact out pins _ _ e s' J z
  | .ok (.ret u), z =>
    obtain ⟨v, G, I3, rv, ev, q3⟩ := J.after z
    subst ev
    exact ⟨rv, ⟨V.ref (s.heap.objs.size + 1), G, I3, rfl, q3⟩⟩
  | .ok .next, z => exact (show False from z).elim
  | .ok .brk, z => exact (show False from z).elim
  | .ok .cont, z => exact (show False from z).elim
theorem pe_makeS (M : Mk X.K C f) (F : FnOk X.prog X.w X.K X.mg X.base CX k f fd ps sp) (room : Room (k + 1) X.A) (hg : Gl X x) (hm : X.mg x = some (.ref C)) (b : Binds X.K fd ps []) (out : ∀ σ, PassesAt CX X σ (E σ)) (ha : PA X (e :: es) t)
    (dbg : (x == ("__debug__" : Str)) = false := by decide) (he : starEach (e :: es) X.env = (false, eval e X.env) :: starEach es X.env := by rfl) (pl : (backTo pos (starEach es X.env)).any (·.1) = false := by rfl) :
    PE X (.Call (.Name x p) (e :: es) [] pos) (tMakeS C sp E t) := by
  refine ⟨fun pins s σ H Q I h => wpAny_Call_Name_kw (ld_glob I hg hm (PySem.W.callWith_K (h₀ := X.base) I.ok.mod.kin M.kp (thn (ha.run pos pins s σ H _ I h) fun us s1 z => ?_) he pl) dbg)⟩
  obtain ⟨vs, G, I1, r, q⟩ := z
  exact ⟨I1.kIn, run_makeS M F room b (out σ) I1 r q⟩
end
end Af

set_option Elab.async false
set_option linter.all false
set_option maxRecDepth 100000
set_option maxHeartbeats 2000000
namespace Af
open PySem PySem.Spec PyProof.Rows L2
/-! an error that a suite puts into a name is held behind the try -/
def HeldE (cls : Value) (d : Option Addr) (a : Addr) : HO := .ext fun h => ∃ (oe : Obj) (vs : Array Value), h.get? a = some oe ∧ Zc cls d oe ∧ oe.data = .fields vs
theorem heldE_ok {P : Program} {w : World} {H : Hp} {h : Heap} {a : Addr} {cls : Value} {d : Option Addr} {oe : Obj} {vs : Array Value} (e : h.get? a = some oe) (z : Zc cls d oe) (q : oe.data = .fields vs) : ObjOk P w H h a (HeldE cls d a) :=
  ⟨⟨oe, vs, e, z, q⟩, ⟨oe, e⟩, fun _ _ ⟨o, v, y, r⟩ k => ⟨o, v, k o y, r⟩⟩
/-- what 'except x as n' wishes: behind the suite the error is held -/
def wHold (K : PySem.W.Frag) (c : Value) (i : Nat) (ts : Addr → Value → Option Addr → TS) (Wout : WX) (D : Ends) : WX := fun cls d σ H => ∃ yes, PySem.W.exmOne K cls c = some yes ∧
  (yes = true → ∀ a, H a = none → ts a cls d { nx := fun τ G => D.nx (τ.set i none) (upd G a (HeldE cls d a)), rt := fun _ _ => False, bk := fun _ _ => False, ct := fun _ _ => False } (σ.set i (some (.ref a))) H) ∧ (yes = false → Wout cls d σ H)
section
variable {X : Cx} {x n : Str} {c : Value} {i : Nat} {body suite : List Stmt} {b₀ : Stmt} {np pos pos' : Pos} {tb : WX → TS} {ts : Addr → Value → Option Addr → TS} {Wout : WX}
theorem hold_end {pins : List (Addr × Obj)} {σ : L2.St} {H : Hp} {s : Shared} {a : Addr} {oe : Obj} {vs : Array Value} {cls : Value} {d : Option Addr} (I : Inv X ((a, oe) :: pins) σ H s) (z : Zc cls d oe) (q : oe.data = .fields vs) (fresh : X.s_0.heap.get? a = none)
    (apart : ∀ p ∈ X.pn ++ pins, p.1 ≠ a) : Inv X pins σ (upd H a (HeldE cls d a)) s := by
  obtain ⟨ea, na, nl, nf, nc⟩ := I.pin (a, oe) (List.mem_append.mpr (.inr List.mem_cons_self))
  have ins : ∀ p ∈ X.pn ++ pins, p ∈ X.pn ++ (a, oe) :: pins := fun p hp => by
    rcases List.mem_append.mp hp with hp | hp
    · exact List.mem_append.mpr (.inl hp)
    · exact List.mem_append.mpr (.inr (List.mem_cons_of_mem _ hp))
  have B := I.base
  refine ⟨I.ok, I.os, I.bare, ⟨B.keep, B.slot, fun b o e n x => ?_, B.there, fun b ys e => ?_, fun b o u e => ?_, fun b ps e => ?_⟩, I.loc, I.cell, ?_, fun y c e => ?_, fun p hp => ?_, ?_, I.len⟩
  · rw [upd_ne (fun y => by rw [y, fresh] at e; cases e)]
    exact B.free b o e n x
  · have y := B.tups b ys e
    rw [upd_ne (ne_of_none y na)]
    exact y
  · have y := B.frzs b o u e
    rw [upd_ne (ne_of_none y na)]
    exact y
  · obtain ⟨more, y⟩ := B.tbls b ps e
    exact ⟨more, by rw [upd_ne (ne_of_none y na)]; exact y⟩
  · rw [upd_ne (Ne.symm nl)]
    exact I.free
  · have f := I.freeC y c e
    by_cases h : c = a
    · obtain ⟨v, o, ho, hd⟩ := I.cell y c e
      rw [h, ea] at ho
      cases ho
      exact absurd hd (nc _)
    · rw [upd_ne h]
      exact f
  · obtain ⟨p1, p2, p3, p4, p5⟩ := I.pin p (ins p hp)
    exact ⟨p1, by rw [upd_ne (apart p hp)]; exact p2, p3, p4, p5⟩
  · exact I.hok.laidN (fun _ _ y => y) na (heldE_ok ea z q)
/-- try: body, except x as n: suite, where the suite runs through -/
theorem ps_try_hold (hs : X.stack = X.env :: X.outer) (hf : X.env.frame = some X.env.locals) (hN : X.N.Nodup) (hi : X.N[i]? = some n) (hln : X.env.kindOf n = some .local) (hex : X.ex = []) (hc : Names X x c) (tk : Takes X Wout)
    (main : ∀ (W : WX) (pn : List (Addr × Obj)) (xe : Value → Shared → Prop), Takes (X.tr pn xe) W → PassesOwn (model X.prog X.w) X.A X.env xe → PSs (X.tr pn xe) body (tb W))
    (after : ∀ (a : Addr) (oe : Obj) (cls : Value) (d : Option Addr) (pn : List (Addr × Obj)), Zc cls d oe → (∃ vs, oe.data = .fields vs) → PSs (X.suite a ((a, oe) :: pn)) (b₀ :: suite) (ts a cls d)) :
    PS X (.Try body [.ExceptHandler (some (.Name x np)) (some n) (b₀ :: suite) pos'] [] [] pos) (fun D σ H => tb (wHold X.K c i ts Wout D) D σ H) := by
  refine ⟨fun pins s σ H D I start => ?_⟩
  have okX := I.ok
  have frm : X.A.frames = some (X.env :: X.outer) := by rw [okX.frames, hs]
  refine wpAny_Try_except (wpAny_mono ((main (wHold X.K c i ts Wout D) (X.pn ++ pins) (fun e u => wpAny (model X.prog X.w) X.A (noteFrame e X.env) (fun _ u2 => wpAny (model X.prog X.w) X.A (setFlight e none) (fun _ u3 =>
    wpAny (model X.prog X.w) X.A (handleBy e X.env [.ExceptHandler (some (.Name x np)) (some n) (b₀ :: suite) pos']) (SP X pins D) X.xe u3) X.xe u2) X.xe u) (fun eu sr air => ?_) PassesOwn.looking).run [] s σ H D (I.toTry _) start) (fun fl s1 done => ?_) (fun _ _ y => y))
  · obtain ⟨a, B, s0, ps0, τ, G, cls, d, rfl, I0, nb, upS, sky, na, osE, bare, yes, hyes, onYes, onNo⟩ := air
    have I1 : Inv X pins τ G s0 := I0.ofTry okX
    show wpAny (model X.prog X.w) X.A (noteFrame (.ref a) X.env) _ _ _
    refine Sky.land Zc.steady frm hf (hs ▸ sky) fun h3 fly up3 => ?_
    have I3 : Inv X pins τ G { sr with heap := h3 } := I1.landed nb fly.1 (upS.trans up3) osE bare
    obtain ⟨o3, v3, at3, z3, d3⟩ := fly.there
    have offs : a ∉ frs (X.env :: X.outer) := fun m => by
      obtain ⟨_, o', e', nfd⟩ := fly.2.2.1.mem m
      rw [at3] at e'
      cases e'
      exact nfd _ d3
    have offL : a ≠ X.env.locals := fun y => offs (List.mem_filterMap.mpr ⟨X.env, List.mem_cons_self, by rw [hf, y]⟩)
    have offF : a ∉ X.fs := fun m => by
      obtain ⟨e, he, y⟩ := List.mem_filterMap.mp m
      exact offs (List.mem_filterMap.mpr ⟨e, List.mem_cons_of_mem _ he, y⟩)
    -- it is younger than all that stood ahead
    have young : s0.heap.get? a = none := by
      cases y : s0.heap.get? a with
      | none => rfl
      | some o =>
        have y2 := nb a o y (by rw [hs]; exact offs)
        rw [fly.2.1] at y2
        cases y2
    have fresh : X.s_0.heap.get? a = none := by
      cases y : X.s_0.heap.get? a with
      | none => rfl
      | some o =>
        obtain ⟨o', y2⟩ := I1.base.there a o y (by rw [hex]; simp)
        rw [young] at y2
        cases y2
    have apart : ∀ p ∈ X.pn ++ pins, p.1 ≠ a := fun p hp y => by
      obtain ⟨p1, _⟩ := I1.pin p hp
      rw [y, young] at p1
      cases p1
    have J3 := I3.suite at3 d3 na offL offF
    refine wpAny_handleBy_cons (codeAny_handlers_test ?_) (by intro y; cases y)
    have kind : PySem.W.Looks (model X.prog X.w) h3 (typeOf (.ref a)) cls := fun _ _ _ _ keep y => wpAny_typeOf_ref (keep _ _ at3) (by rw [z3.1]; exact y)
    have match_ := PySem.W.exm_one (M := model X.prog X.w) I3.kIn kind hyes
    have named : ∀ {R : Value → Shared → Prop} {E : Value → Shared → Prop}, R c { sr with heap := h3 } → wpAny (model X.prog X.w) (X.A.mark (some (.ref a))) (eval (.Name x np) X.env) R E { sr with heap := h3 } := fun {R E} y => by
      obtain ⟨g, dbg, own | ⟨no, bt, nn⟩⟩ := hc
      · exact ld_glob (X := X.suite a ((a, o3) :: (X.pn ++ pins))) J3 g own y dbg
      · exact ld_blt (X := X.suite a ((a, o3) :: (X.pn ++ pins))) J3 g no bt y nn dbg
    refine named (match_.here ?_)
    cases yes with
    | true =>
      refine codeAny_handlers_suite_as (HandSPX.lands_againZ fly fun h4 fly4 up4 => ?_)
      have I4 : Inv X pins τ G { sr with heap := h4 } := I1.landed nb fly4.1 ((upS.trans up3).trans up4) osE bare
      obtain ⟨o4, v4, at4, z4, d4⟩ := fly4.there
      refine store_ok (X := X.suite a ((a, o4) :: (X.pn ++ pins))) (v := .ref a) (I4.suite at4 d4 na offL offF) hN hi (.inl hln) rfl (fun s5 I5 => ?_) (.inr hln)
      refine wpAny_mono ((after a o4 cls d (X.pn ++ pins) z4 ⟨_, d4⟩).run [] s5 _ G _ I5 (onYes rfl a na)) (fun fl s6 y => ?_) (fun _ _ y => False.elim y)
      match fl, y with
      | .next, ⟨τ6, G6, I6, q6⟩ =>
        have I6' : Inv X ((a, o4) :: pins) τ6 G6 s6 := by
          have u := I6.unsuite (q := (a, o4)) okX
          exact ⟨u.ok, u.os, u.bare, u.base, u.loc, u.cell, u.free, u.freeC, fun p hp => by
            rcases List.mem_append.mp hp with hp | hp
            · exact u.pin p (List.mem_append.mpr (.inl hp))
            · rcases List.mem_cons.mp hp with rfl | hp
              · exact I6.pin _ (List.mem_append.mpr (.inl List.mem_cons_self))
              · exact u.pin p (List.mem_append.mpr (.inr hp)), u.hok, u.len⟩
        exact gone_ok I6' hN hi hln fun s7 I7 => ⟨_, _, hold_end I7 z4 d4 fresh apart, q6⟩
      | .ret u, ⟨_, _, _, _, _, q6⟩ => exact q6.elim
      | .brk, ⟨_, _, _, q6⟩ => exact q6.elim
      | .cont, ⟨_, _, _, q6⟩ => exact q6.elim
    | false =>
      show wpAny _ X.A (handleBy (.ref a) X.env []) _ _ _
      refine wpAny_handleBy_nil ?_
      obtain ⟨_, _, _, oe, vs, T, oT, tr, he, hz, hd, hT, _⟩ := id fly
      have up : wpAny (model X.prog X.w) X.A (setFlight (.ref a) X.env.frame) (fun _ u => wpAny (model X.prog X.w) X.A (throw (.ref a) : Sem Flow) (SP X pins D) X.xe u) X.xe { sr with heap := h3 } := by
        rw [hf]
        exact HandSPX.setFlight_upZ fly fun h4 held up4 => wpAny_throw (tk _ _ ⟨a, B, s0, pins, τ, G, cls, d, rfl, I1, nb, (upS.trans up3).trans up4, .inr (.inr (by rw [hs]; exact held)), na, osE, bare, onNo rfl⟩)
      unfold PySem.passOn
      refine wpAny_bind (wpAny_field he hd hT ?_)
      rw [if_neg (show ¬ ((Value.ref T == Value.none) = true) from by simp)]
      first
        | exact wpAny_bind (wpAny_pure (wpAny_bind up))
        | exact wpAny_bind up
  · match fl, done with
    | .next, ⟨τ, G, J, q⟩ => exact wpAny_execs_nil ⟨τ, G, J.ofTry okX, q⟩
    | .brk, ⟨τ, G, J, q⟩ => exact ⟨τ, G, J.ofTry okX, q⟩
    | .cont, ⟨τ, G, J, q⟩ => exact ⟨τ, G, J.ofTry okX, q⟩
    | .ret u, ⟨v, τ, G, J, r, q⟩ => exact ⟨v, τ, G, J.ofTry okX, r, q⟩
/-- isinstance(e, c) of an error that is held -/
def rIsHeld (K : PySem.W.Frag) (D : Addr) : List V → Hp → VK → Prop := fun xs H Q => ∃ (a : Addr) (c : V) (cv : Value) (b : Bool), xs = [.ref a, c] ∧ H a = some (HeldE (.ref D) none a) ∧ ClsV c cv ∧ PySem.W.kitOne K (.ref D) cv = some b ∧ Q (.bl b) H
theorem held_at {pins : List (Addr × Obj)} {σ : L2.St} {H : Hp} {s : Shared} {a D : Addr} (I : Inv X pins σ H s) (h : H a = some (HeldE (.ref D) none a)) : ∃ oe, PySem.W.InstAt s.heap a oe D none := by
  obtain ⟨⟨oe, vs, e, ⟨c1, c2⟩, dd⟩, _⟩ := (show ObjOk X.prog X.w H s.heap a (HeldE (.ref D) none a) from I.hok a _ h)
  obtain ⟨oc, od, oda, osl⟩ := oe
  dsimp only at c1 c2 dd
  subst c1 c2 dd
  exact ⟨_, e, rfl, rfl, trivial⟩
theorem call_isHeld {D : Addr} (C : L2.ExcC X.K D) : CallR X (.builtin "isinstance") (rIsHeld X.K D) := by
  intro pins s σ H xs us Q I r h
  obtain ⟨a, c, cv, b, rfl, ha, k, e, q⟩ := h
  obtain ⟨u1, u2, rfl, r1, r2⟩ := vals2 r
  cases (show u1 = Value.ref a from r1)
  have e2 := k.eq r2
  subst e2
  obtain ⟨oe, J⟩ := held_at I ha
  exact PySem.W.kia_one (PySem.W.handS_kitx_exc C.hg C.hk C.hs C.hd C.ha C.hn C.ht C.hm) I.kIn J e (fun y => nomatch y) fun tk => ⟨.bl b, H, I.tok tk, rfl, q⟩
/-- the same, a tuple of classes that was just laid -/
def rIsHeldT (K : PySem.W.Frag) (D : Addr) : List V → Hp → VK → Prop := fun xs H Q => ∃ (a tp : Addr) (cs : List V) (cvs : List Value) (b : Bool), xs = [.ref a, .ref tp] ∧ H a = some (HeldE (.ref D) none a) ∧ H tp = some (.tup cs) ∧ Paired ClsV cs cvs ∧ PySem.W.kitAny K (.ref D) cvs = some b ∧ Q (.bl b) H
theorem call_isHeldT {D : Addr} (C : L2.ExcC X.K D) : CallR X (.builtin "isinstance") (rIsHeldT X.K D) := by
  intro pins s σ H xs us Q I r h
  obtain ⟨a, tp, cs, cvs, b, rfl, ha, ht, k, e, q⟩ := h
  obtain ⟨u1, u2, rfl, r1, r2⟩ := vals2 r
  cases (show u1 = Value.ref a from r1)
  cases (show u2 = Value.ref tp from r2)
  obtain ⟨oe, J⟩ := held_at I ha
  obtain ⟨its, rv, ⟨o, h1, h2, n, h3⟩, _⟩ := I.tuple (SqT.of ht)
  have e3 := ClsV.all k rv
  subst e3
  obtain ⟨oc, od, dt, sl⟩ := o
  simp only at h2 h3
  subst h2 h3
  exact PySem.W.kia_tup (PySem.W.handS_kitx_exc C.hg C.hk C.hs C.hd C.ha C.hn C.ht C.hm) I.kIn J h1 e (fun y => nomatch y) fun tk => ⟨.bl b, H, I.tok tk, rfl, q⟩
end
end Af

set_option Elab.async false
set_option linter.all false
set_option maxRecDepth 100000
namespace Af
open PySem PySem.Spec PyProof.Rows L2
/-! a def that asks repr, called where no repr is under way; repr of data of any kind -/
structure CalG (P : Program) (w : World) (K : PySem.W.Frag) (mg : Str → Option Value) (base : Heap) (k : Nat) (x : Str) (ps : List Str) (sp : Sp) : Prop where
  ex : ∃ (f : Addr) (fd : FuncData), FnG P w K mg base k f fd ps sp ∧ mg x = some (.ref f) ∧ PySem.W.keepIn K (.ref f) = true ∧ Binds K fd ps []
section
variable {X : Cx} {k j : Nat} {x : Str} {ps : List Str} {sp : Sp} {e : Expr} {es : List Expr} {t : TA} {p pos : Pos}
theorem pe_calG (c : CalG X.prog X.w X.K X.mg X.base k x ps sp) (room : Room j X.A) (quiet : X.A.guards = some []) (ha : PA X (e :: es) t) (hkj : k ≤ j := by decide) (hg : Gl X x := by rfl) (dbg : (x == ("__debug__" : Str)) = false := by decide)
    (he : starEach (e :: es) X.env = (false, eval e X.env) :: starEach es X.env := by rfl) (pl : (backTo pos (starEach es X.env)).any (·.1) = false := by rfl) :
    PE X (.Call (.Name x p) (e :: es) [] pos) (tCal sp t) := by
  obtain ⟨f, fd, G, m, kp, b⟩ := c.ex
  refine ⟨fun pins s σ H Q I h => wpAny_Call_Name_kw (ld_glob I hg m (PySem.W.callWith_K (h₀ := X.base) I.ok.mod.kin kp (thn (ha.run pos pins s σ H _ I h) fun us s1 z => ?_) he pl) dbg)⟩
  obtain ⟨vs, H1, I1, r, q⟩ := z
  refine ⟨I1.kIn, ?_⟩
  have nl : us.length = ps.length := by
    rw [← r.length]
    exact G.many _ _ _ _ q
  have bb := b s1 us I1.kIn (by rw [List.append_nil]; exact nl)
  rw [List.append_nil] at bb
  refine wpAny_call (codeAny_mono (G.goes X.A X.stack s1 H1 ⟨us, []⟩ us vs Q E0 (room.mono hkj) quiet I1.env0 bb r q) fun r s' z => ?_)
  match r, z with
  | .error e, z => exact pass0 pins σ H1 s1 e s' I1 z
  | .ok (.ret u), z => exact I1.after z
  | .ok .next, z => exact (show False from z).elim
  | .ok .brk, z => exact (show False from z).elim
  | .ok .cont, z => exact (show False from z).elim
end
section
variable {X : Cx} {pins : List (Addr × Obj)} {σ : L2.St} {H : Hp} {s : Shared}
def rReprL (K : PySem.W.Frag) : List V → Hp → VK → Prop := fun xs H Q => ∃ (a : Addr) (vs : List V) (ds : List PyData), xs = [.ref a] ∧ H a = some (.lst vs) ∧ DqAll K H vs ds ∧ PyData.showableAll ds = true ∧ PyData.depthAll ds ≤ 60 ∧ (PyData.list ds).shown.length ≤ sizeLine ∧ Q (.str (PyData.list ds).shown) H
/-- repr of a list of data -/
theorem call_reprL (hg : X.A.guards = some []) (hu : X.A.units + 64 < cLine) : CallR X (.builtin "repr") (rReprL X.K) := by
  intro pins s σ H xs us Q I r h
  obtain ⟨a, vs, ds, rfl, hs, hd, sh, dp, sz, q⟩ := h
  obtain ⟨u, rfl, ru⟩ := vals1 r
  cases (show u = Value.ref a from ru)
  obtain ⟨its, rv, ⟨o, n, ho, hc, _, hdd⟩, _⟩ := I.list (SqL.of hs)
  have sz' : (listText (PyData.shownAll ds)).length ≤ sizeLine := by simpa only [PyData.shown] using sz
  obtain ⟨as, bs, hr, hb, hk⟩ := Dq.seesAll I ds vs its hd rv sh fun t ht => Nat.le_trans (listText_mem_le ht) sz'
  have rd : Reads s.heap (.ref a) (.list ds) _ := .list ho hc hdd hr
  have new : a ∉ bs := not_mem_of_deeper rd (by simp only [PyData.depth]; omega) hb
  have txt : (PyData.list ds).shown = listText (PyData.shownAll ds) := by simp only [PyData.shown]
  refine call_repr_slot (T := "list") (by omega) ⟨o, ho, hc⟩ PySem.F.slot_list_repr.toG ?_
  cases its with
  | nil =>
    cases hr
    have e0 : (PyData.list []).shown = ("[]" : Str) := by simp only [PyData.shown, PyData.shownAll, listText_nil]
    refine call_list_repr_empty ⟨o, ho, hc⟩ ho hdd ⟨_, _, rfl, .str (PyData.list []).shown, H, ?_, ⟨_, by rw [e0]⟩, q⟩
    exact I.kept (t' := _) fun _ _ y => y
  | cons y l =>
    refine call_list_reprK ho hc hdd new (by simpa using hk.length_eq) (fun i y e => hk.item i y (by simpa using e)) hg (fun b _ => Clear.nil b) (by show X.A.units + 1 + (PyData.depthAll ds + 1) < cLine; omega) (fun _ _ e => e) (fun h' u tk keep => ?_) sz'
    refine ⟨_, _, rfl, .str (PyData.list ds).shown, H, I.kept keep, ⟨u, ?_⟩, q⟩
    simp only [PyData.shown]
end
end Af

set_option Elab.async false
set_option linter.all false
set_option maxRecDepth 100000
namespace Af
open PySem PySem.Spec PyProof.Rows L2
/-! xs.count(None), exactly; repr of a thing of any kind -/
def rCntX (K : PySem.W.Frag) : V → List V → Hp → VK → Prop := fun x xs H Q => ∃ (p : Addr) (ys : List V) (ds : List PyData), x = .ref p ∧ xs = [.non] ∧ SqL K H p ys ∧ DpAll K H ys ds ∧ PyData.canLayAll0 ds = true ∧ Q (.int ((ds.countP (fun y => PyData.eqv y .none) : Nat) : Int)) H
theorem mt_countX {X : Cx} (hu : X.A.units + 1 < cLine) : MtR X "list.count" (rCntX X.K) := by
  intro pins s σ H x xs v us Q I rx rxs h
  obtain ⟨p, ys, ds, rfl, rfl, hs, hd, hl, q⟩ := h
  cases (show v = Value.ref p from rx)
  obtain ⟨u, rfl, ru⟩ := rxs.one
  cases (show u = Value.none from ru)
  obtain ⟨its, rv, pl, _⟩ := I.list hs
  obtain ⟨as, rs⟩ := Dp.readsAll I ds ys its hd rv
  refine PySem.SeqAt.count_list_data (d := .none) (vs := its.toArray) pl.isList (by simpa using rs) Reads.none (PyData.plainAll_of_canLay0 _ hl) rfl (by show X.A.units + 1 + min _ 0 < cLine; omega) ?_
  exact ⟨.int (ds.countP (fun y => PyData.eqv y .none) : Nat), H, I.tok _, ⟨_, rfl⟩, q⟩
/-- the barriers among these steps -/
def bars (l : List Stp) : Nat := l.countP fun s => s.isNone
theorem bars_count : ∀ l : List Stp, (stepsD l).countP (fun y => PyData.eqv y .none) = bars l
  | [] => rfl
  | a :: l => by
    have e : stepsD (a :: l) = stepD a :: stepsD l := rfl
    unfold bars
    rw [e, List.countP_cons, List.countP_cons, bars_count l]
    cases a with
    | none => rfl
    | some fw =>
      obtain ⟨f, ws⟩ := fw
      rfl
theorem bars_app (a b : List Stp) : bars (a ++ b) = bars a + bars b := List.countP_append ..
/-- repr of data that is no list, tuple or dict -/
def rReprF : List V → Hp → VK → Prop := fun xs H Q => ∃ (x : V) (d : PyData), xs = [x] ∧ (∀ K, Dq K H x d) ∧ flatD d = true ∧ (∀ kvs, d ≠ .dict kvs) ∧ Q (.str d.shown) H
theorem call_reprF {X : Cx} (hg : X.A.guards = some []) (hu : X.A.units + 64 < cLine) : CallR X (.builtin "repr") rReprF := by
  intro pins s σ H xs us Q I r h
  obtain ⟨x, d, rfl, hd, fl, nd, q⟩ := h
  obtain ⟨u, rfl, ru⟩ := vals1 r
  obtain ⟨tx, sh, dp⟩ := flat_len fl
  cases hd X.K with
  | int i =>
    obtain ⟨t, rfl⟩ := ru
    have lg : i.natAbs.log2 < 1920 := of_decide_eq_true (show decide (i.natAbs.log2 < 1920) = true from by simpa only [PyData.showable] using sh)
    refine PySem.P.repr_of_int lg ⟨.str _, H, I.tok _, ⟨_, rfl⟩, ?_⟩
    simpa only [PyData.shown] using q
  | non =>
    cases (show u = Value.none from ru)
    refine PySem.P.repr_of_none ⟨.str _, H, I.tok _, ⟨_, rfl⟩, ?_⟩
    simpa only [PyData.shown] using q
  | bl b =>
    cases (show u = Value.bool b from ru)
    refine PySem.P.repr_of_bool ⟨.str (PyData.bool b).shown, H, I.tok _, ⟨s.toks, ?_⟩, q⟩
    cases b <;> simp only [PyData.shown] <;> rfl
  | str z =>
    obtain ⟨t, rfl⟩ := ru
    refine PySem.P.repr_of_str ⟨.str (PyData.str z).shown, H, I.tok _, ⟨s.toks, ?_⟩, q⟩ ?_
    · simp only [PyData.shown]
    have := of_decide_eq_true fl
    exact Nat.le_trans this (by decide)
  | lst e t => cases fl
  | tup e t => cases fl
  | dic e => exact absurd rfl (nd _)
end Af

set_option Elab.async false
set_option linter.all false
set_option maxRecDepth 100000
namespace Af
open PySem PySem.Spec PyProof.Rows L2
/-! repr of data of any kind -/
def rReprA (K : PySem.W.Frag) : List V → Hp → VK → Prop := fun xs H Q => ∃ (x : V) (d : PyData), xs = [x] ∧ Dq K H x d ∧ d.showable = true ∧ d.depth ≤ 60 ∧ d.shown.length ≤ sizeLine ∧ Q (.str d.shown) H
theorem call_reprA {X : Cx} (hg : X.A.guards = some []) (hu : X.A.units + 64 < cLine) : CallR X (.builtin "repr") (rReprA X.K) := by
  intro pins s σ H xs us Q I r h
  obtain ⟨x, d, rfl, hd, sh, dp, sz, q⟩ := h
  have hd0 := hd
  cases hd with
  | int i =>
    obtain ⟨u, rfl, ru⟩ := vals1 r
    obtain ⟨t, rfl⟩ := ru
    have lg : i.natAbs.log2 < 1920 := of_decide_eq_true (show decide (i.natAbs.log2 < 1920) = true from by simpa only [PyData.showable] using sh)
    refine PySem.P.repr_of_int lg ⟨.str _, H, I.tok _, ⟨_, rfl⟩, ?_⟩
    simpa only [PyData.shown] using q
  | non =>
    obtain ⟨u, rfl, ru⟩ := vals1 r
    cases (show u = Value.none from ru)
    refine PySem.P.repr_of_none ⟨.str _, H, I.tok _, ⟨_, rfl⟩, ?_⟩
    simpa only [PyData.shown] using q
  | bl b =>
    obtain ⟨u, rfl, ru⟩ := vals1 r
    cases (show u = Value.bool b from ru)
    refine PySem.P.repr_of_bool ⟨.str (PyData.bool b).shown, H, I.tok _, ⟨s.toks, ?_⟩, q⟩
    cases b <;> simp only [PyData.shown] <;> rfl
  | str z =>
    obtain ⟨u, rfl, ru⟩ := vals1 r
    obtain ⟨t, rfl⟩ := ru
    refine PySem.P.repr_of_str ⟨.str (PyData.str z).shown, H, I.tok _, ⟨s.toks, ?_⟩, q⟩ ?_
    · simp only [PyData.shown]
    simpa only [PyData.shown] using sz
  | @lst a xs ds e t =>
    have dp' : PyData.depthAll ds + 1 ≤ 60 := by simpa only [PyData.depth] using dp
    exact call_reprL hg hu pins s σ H _ us Q I r ⟨a, xs, ds, rfl, e, t, by simpa only [PyData.showable] using sh, by omega, sz, q⟩
  | @tup a xs ds e t =>
    have dp' : PyData.depthAll ds + 1 ≤ 60 := by simpa only [PyData.depth] using dp
    exact call_repr' hg hu pins s σ H _ us Q I r ⟨a, xs, ds, rfl, e, t, by simpa only [PyData.showable] using sh, by omega, sz, q⟩
  | @dic a ha =>
    obtain ⟨u, rfl, ru⟩ := vals1 r
    cases (show u = Value.ref a from ru)
    obtain ⟨_, hne, vs, rv, o, es, ep, h1, h2, h3, _, h4, _⟩ := dk_of I.hok ha
    cases rv
    have e : es.toList = [] := by
      cases q : es.toList with
      | nil => rfl
      | cons y l =>
        rw [q] at h4
        cases h4
    have rd : Reads s.heap (.ref a) (.dict []) ([a] ++ []) := Reads.dict (kvs := []) (as := []) (bs := []) h1 h2.1 h3 (by rw [e]; exact .nil) (by rw [e]; exact .nil)
    refine repr_of_reads' (h₀ := s.heap) rd sh (fun _ z => ?_) hg (by omega) (fun _ _ y => y) (fun h' u tk keep => ⟨.str (PyData.dict []).shown, H, I.kept keep, ⟨u, rfl⟩, q⟩) sz
    have z' : sysModules ∈ [a] := z
    rw [← List.mem_singleton.mp z'] at hne
    exact absurd hne (by simp)
end Af

set_option Elab.async false
set_option linter.all false
set_option maxRecDepth 100000
set_option maxHeartbeats 4000000
namespace Af
open PySem PySem.Spec PyProof.Rows L2
/-! data with dicts within, their keys ints and texts; its repr -/
def keyD : L2.Key → PyData
  | .inl i => .int i
  | .inr x => .str x
mutual
inductive Dx (K : PySem.W.Frag) (H : Hp) : V → PyData → Prop
  | non : Dx K H .non .none
  | bl (b : Bool) : Dx K H (.bl b) (.bool b)
  | int (i : Int) : Dx K H (.int i) (.int i)
  | str (x : Str) : Dx K H (.str x) (.str x)
  | lst {a : Addr} {xs : List V} {ds : List PyData} : H a = some (.lst xs) → DxAll K H xs ds → Dx K H (.ref a) (.list ds)
  | tup {a : Addr} {xs : List V} {ds : List PyData} : H a = some (.tup xs) → DxAll K H xs ds → Dx K H (.ref a) (.tuple ds)
  | dic {a : Addr} {rows : List (L2.Key × V)} {kvs : List (PyData × PyData)} : H a = some (.dK rows) → DxKv K H rows kvs → Dx K H (.ref a) (.dict kvs)
inductive DxAll (K : PySem.W.Frag) (H : Hp) : List V → List PyData → Prop
  | nil : DxAll K H [] []
  | cons {v : V} {vs : List V} {d : PyData} {ds : List PyData} : Dx K H v d → DxAll K H vs ds → DxAll K H (v :: vs) (d :: ds)
inductive DxKv (K : PySem.W.Frag) (H : Hp) : List (L2.Key × V) → List (PyData × PyData) → Prop
  | nil : DxKv K H [] []
  | cons {k : L2.Key} {v : V} {rows : List (L2.Key × V)} {d : PyData} {kvs : List (PyData × PyData)} : Dx K H v d → DxKv K H rows kvs → DxKv K H ((k, v) :: rows) ((keyD k, d) :: kvs)
end
mutual
theorem Dx.of {K : PySem.W.Frag} {H : Hp} : ∀ {v : V} {d : PyData}, Dq K H v d → Dx K H v d
  | _, _, .non => .non
  | _, _, .bl b => .bl b
  | _, _, .int i => .int i
  | _, _, .str x => .str x
  | _, _, .lst e t => .lst e (DxAll.of t)
  | _, _, .tup e t => .tup e (DxAll.of t)
  | _, _, .dic e => .dic e .nil
theorem DxAll.of {K : PySem.W.Frag} {H : Hp} : ∀ {v : List V} {d : List PyData}, DqAll K H v d → DxAll K H v d
  | _, _, .nil => .nil
  | _, _, .cons h t => .cons (Dx.of h) (DxAll.of t)
end
mutual
theorem Dx.same {K : PySem.W.Frag} {H H' : Hp} (s : Same H H') : ∀ {v : V} {d : PyData}, Dx K H v d → Dx K H' v d
  | _, _, .non => .non
  | _, _, .bl b => .bl b
  | _, _, .int i => .int i
  | _, _, .str x => .str x
  | _, _, .lst e t => .lst (s _ _ e) (DxAll.same s t)
  | _, _, .tup e t => .tup (s _ _ e) (DxAll.same s t)
  | _, _, .dic e t => .dic (s _ _ e) (DxKv.same s t)
theorem DxAll.same {K : PySem.W.Frag} {H H' : Hp} (s : Same H H') : ∀ {v : List V} {d : List PyData}, DxAll K H v d → DxAll K H' v d
  | _, _, .nil => .nil
  | _, _, .cons h t => .cons (Dx.same s h) (DxAll.same s t)
theorem DxKv.same {K : PySem.W.Frag} {H H' : Hp} (s : Same H H') : ∀ {v : List (L2.Key × V)} {d : List (PyData × PyData)}, DxKv K H v d → DxKv K H' v d
  | _, _, .nil => .nil
  | _, _, .cons h t => .cons (Dx.same s h) (DxKv.same s t)
end
theorem DxAll.len {K : PySem.W.Frag} {H : Hp} : ∀ {v : List V} {d : List PyData}, DxAll K H v d → v.length = d.length
  | _, _, .nil => rfl
  | _, _, .cons _ t => by rw [List.length_cons, List.length_cons, t.len]
theorem DxKv.len {K : PySem.W.Frag} {H : Hp} : ∀ {v : List (L2.Key × V)} {d : List (PyData × PyData)}, DxKv K H v d → v.length = d.length
  | _, _, .nil => rfl
  | _, _, .cons _ t => by rw [List.length_cons, List.length_cons, t.len]
theorem DxAll.at {K : PySem.W.Frag} {H : Hp} : ∀ {xs : List V} {ds : List PyData}, DxAll K H xs ds → ∀ {i : Nat} {y : V}, xs[i]? = some y → ∃ d, ds[i]? = some d ∧ Dx K H y d
  | _, _, .nil, i, y, h => by simp at h
  | _, _, .cons r t, 0, y, h => by cases h; exact ⟨_, rfl, r⟩
  | _, _, .cons r t, i + 1, y, h => t.at (i := i) h
theorem DxAll.app {K : PySem.W.Frag} {H : Hp} : ∀ {xs ys : List V} {ds es : List PyData}, DxAll K H xs ds → DxAll K H ys es → DxAll K H (xs ++ ys) (ds ++ es)
  | _, _, _, _, .nil, h => h
  | _, _, _, _, .cons r t, h => .cons r (t.app h)
theorem depthKv_key (k : L2.Key) (d : PyData) (r : List (PyData × PyData)) : PyData.depthKv ((keyD k, d) :: r) = max d.depth (PyData.depthKv r) := by
  cases k <;> simp only [PyData.depthKv, keyD, PyData.depth, Nat.zero_max]
theorem kv_le_l {k v : Str} : k.length ≤ (k ++ ": " ++ v).length := by rw [strLen_append, strLen_append]; omega
theorem kv_le_r {k v : Str} : v.length ≤ (k ++ ": " ++ v).length := by rw [strLen_append, strLen_append]; omega
section
variable {X : Cx} {pins : List (Addr × Obj)} {σ : L2.St} {H : Hp} {s : Shared}
theorem flat_sees (I : Inv X pins σ H s) {u : Value} {d : PyData} {as : List Addr} (r : Reads s.heap u d as) (no : d.hasDict = false) (sh : d.showable = true) (sz : d.shown.length ≤ sizeLine) : ∃ as bs, Reads s.heap u d as ∧ ReadAtMost s.heap d.depth bs ∧ ReprK X.prog X.w bs s.heap d.depth u d.shown := by
  obtain ⟨bs, h1, h2⟩ := ReprK.of_reads (prog := X.prog) (w := X.w) (h₀ := s.heap) r sh (fun z => by rw [no] at z; cases z) sz
  exact ⟨_, bs, r, h1, h2⟩
theorem key_sees (I : Inv X pins σ H s) {k : L2.Key} {u : Value} (hk : L2.keyIs k u = true) (sh : (keyD k).showable = true) (sz : (keyD k).shown.length ≤ sizeLine) : ∃ as bs, Reads s.heap u (keyD k) as ∧ ReadAtMost s.heap (keyD k).depth bs ∧ ReprK X.prog X.w bs s.heap (keyD k).depth u (keyD k).shown := by
  rcases L2.keyIs_shape hk with ⟨i, t, rfl, rfl⟩ | ⟨x, t, rfl, rfl⟩
  · exact flat_sees I (Reads.int i t) rfl sh sz
  · exact flat_sees I (Reads.str x t) rfl sh sz
mutual
theorem Dx.sees (I : Inv X pins σ H s) : ∀ (d : PyData) (v : V) (u : Value), Dx X.K H v d → RelV v u → d.showable = true → d.shown.length ≤ sizeLine →
    ∃ as bs, Reads s.heap u d as ∧ ReadAtMost s.heap d.depth bs ∧ ReprK X.prog X.w bs s.heap d.depth u d.shown
  | .none, _, _, h, r, sh, sz => by
    cases h
    cases r
    exact flat_sees I Reads.none rfl sh sz
  | .bool b, _, _, h, r, sh, sz => by
    cases h
    cases r
    exact flat_sees I (Reads.bool b) rfl sh sz
  | .int i, _, _, h, r, sh, sz => by
    cases h
    obtain ⟨t, rfl⟩ := r
    exact flat_sees I (Reads.int i t) rfl sh sz
  | .str x, _, _, h, r, sh, sz => by
    cases h
    obtain ⟨t, rfl⟩ := r
    exact flat_sees I (Reads.str x t) rfl sh sz
  | .list ds, _, _, h, r, sh, sz => by
    cases h with
    | @lst a xs _ hs ha =>
      cases r
      obtain ⟨its, rv, ⟨o, n, ho, hc, _, hd⟩, _⟩ := I.list (SqL.of hs)
      have sz' : (listText (PyData.shownAll ds)).length ≤ sizeLine := by simpa only [PyData.shown] using sz
      obtain ⟨as, bs, hr, hb, hk⟩ := Dx.seesAll I ds _ its ha rv (by simpa [PyData.showable] using sh) fun t ht => Nat.le_trans (listText_mem_le ht) sz'
      have rd : Reads s.heap (.ref a) (.list ds) _ := .list ho hc hd hr
      have new : a ∉ bs := not_mem_of_deeper rd (by simp only [PyData.depth]; omega) hb
      refine ⟨_, a :: bs, rd, ReadAtMost.cons rd (by simp only [PyData.depth]; omega) hb, ?_⟩
      simp only [PyData.depth, PyData.shown]
      cases its with
      | nil =>
        cases hr
        simp only [PyData.shownAll, listText_nil]
        exact ReprK.listEmpty ho hc hd
      | cons x l => exact ReprK.list ho hc hd new (by simpa using hk.length_eq) fun i y e => hk.item i y (by simpa using e)
  | .tuple ds, _, _, h, r, sh, sz => by
    cases h with
    | @tup a xs _ hs ha =>
      cases r
      obtain ⟨its, rv, ⟨o, ho, hc, n, hd⟩, _⟩ := I.tuple (SqT.of hs)
      have sz' : (tupleText (PyData.shownAll ds)).length ≤ sizeLine := by simpa only [PyData.shown] using sz
      obtain ⟨as, bs, hr, hb, hk⟩ := Dx.seesAll I ds _ its ha rv (by simpa [PyData.showable] using sh) fun t ht => Nat.le_trans (tupleText_mem_le ht) sz'
      have rd : Reads s.heap (.ref a) (.tuple ds) _ := .tuple ho hc hd hr
      have new : a ∉ bs := not_mem_of_deeper rd (by simp only [PyData.depth]; omega) hb
      refine ⟨_, a :: bs, rd, ReadAtMost.cons rd (by simp only [PyData.depth]; omega) hb, ?_⟩
      simp only [PyData.depth, PyData.shown]
      exact ReprK.tuple ho hc hd new hk
  | .dict kvs, _, _, h, r, sh, sz => by
    cases h with
    | @dic a rows _ ha hr =>
      cases r
      obtain ⟨_, hne, vs, rv, o, es, ep, h1, h2, h3, _, h4, _⟩ := dk_of I.hok ha
      have sz' : (dictText (PyData.shownKv kvs)).length ≤ sizeLine := by simpa only [PyData.shown] using sz
      obtain ⟨as1, as2, bs, r1, r2, hb, k1, k2⟩ := Dx.seesKv I kvs rows vs es.toList hr rv h4 (by simpa [PyData.showable] using sh) fun t ht => Nat.le_trans (dictText_mem_le ht) sz'
      have rd : Reads s.heap (.ref a) (.dict kvs) _ := .dict h1 h2.1 h3 r1 r2
      have new : a ∉ bs := not_mem_of_deeper rd (by simp only [PyData.depth]; omega) hb
      refine ⟨_, a :: bs, rd, ReadAtMost.cons rd (by simp only [PyData.depth]; omega) hb, ?_⟩
      simp only [PyData.depth, PyData.shown, PyData.shownKv_eq]
      exact ReprK.dict h1 h2.1 h3 hne new (ReprEntriesK.of_two es.toList _ _ k1 k2)
theorem Dx.seesAll (I : Inv X pins σ H s) : ∀ (ds : List PyData) (vs : List V) (us : List Value), DxAll X.K H vs ds → Vals vs us → PyData.showableAll ds = true → (∀ t ∈ PyData.shownAll ds, t.length ≤ sizeLine) →
    ∃ as bs, ReadsAll s.heap us ds as ∧ ReadAtMost s.heap (PyData.depthAll ds) bs ∧ ReprAllK X.prog X.w bs s.heap (PyData.depthAll ds) us (PyData.shownAll ds)
  | [], _, _, h, r, _, _ => by
    cases h
    cases r
    refine ⟨_, [], ReadsAll.nil, ⟨fun b z => (by simp at z), ?_⟩⟩
    simp only [PyData.shownAll]
    exact .nil
  | d :: ds, _, _, h, r, sh, sz => by
    cases h with
    | cons h1 h2 =>
      cases r with
      | cons r1 r2 =>
        have sh' : d.showable = true ∧ PyData.showableAll ds = true := by simpa [PyData.showableAll] using sh
        obtain ⟨a1, b1, q1, m1, k1⟩ := Dx.sees I d _ _ h1 r1 sh'.1 (sz _ (by simp only [PyData.shownAll]; exact List.mem_cons_self))
        obtain ⟨a2, b2, q2, m2, k2⟩ := Dx.seesAll I ds _ _ h2 r2 sh'.2 fun t ht => sz t (by simp only [PyData.shownAll]; exact List.mem_cons_of_mem _ ht)
        refine ⟨_, b1 ++ b2, ReadsAll.cons q1 q2, fun b hb => ?_, ?_⟩
        · simp only [PyData.depthAll]
          rcases List.mem_append.mp hb with hb | hb
          · obtain ⟨d', a', r', y⟩ := m1 b hb
            exact ⟨d', a', r', by omega⟩
          · obtain ⟨d', a', r', y⟩ := m2 b hb
            exact ⟨d', a', r', by omega⟩
        · simp only [PyData.depthAll, PyData.shownAll]
          refine .cons ((k1.more fun b hb => List.mem_append.mpr (.inl hb)).level_le (by omega)) (k2.more_le (fun b hb => List.mem_append.mpr (.inr hb)) (by omega))
theorem Dx.seesKv (I : Inv X pins σ H s) : ∀ (kvs : List (PyData × PyData)) (rows : List (L2.Key × V)) (vs : List (L2.Key × Value)) (es : List DictEntry), DxKv X.K H rows kvs → KV rows vs → Pairs (mixKind X.prog X.w) es vs → PyData.showableKv kvs = true → (∀ t ∈ PyData.shownKv kvs, t.length ≤ sizeLine) →
    ∃ as1 as2 bs, ReadsAll s.heap (es.map (·.key)) (kvs.map (·.1)) as1 ∧ ReadsAll s.heap (es.map (·.val)) (kvs.map (·.2)) as2 ∧ ReadAtMost s.heap (PyData.depthKv kvs) bs ∧
      ReprAllK X.prog X.w bs s.heap (PyData.depthKv kvs) (es.map (·.key)) (PyData.shownAll (kvs.map (·.1))) ∧ ReprAllK X.prog X.w bs s.heap (PyData.depthKv kvs) (es.map (·.val)) (PyData.shownAll (kvs.map (·.2)))
  | [], _, _, _, h, r, p, _, _ => by
    cases h
    cases r
    cases p
    refine ⟨_, _, [], ReadsAll.nil, ReadsAll.nil, fun b z => (by simp at z), ?_, ?_⟩
    · simp only [List.map_nil, PyData.shownAll]
      exact .nil
    · simp only [List.map_nil, PyData.shownAll]
      exact .nil
  | (dk, d) :: kvs, _, _, _, h, r, p, sh, sz => by
    cases h with
    | @cons k v rows _ _ h1 h2 =>
      cases r with
      | @cons _ y _ ys r1 r2 =>
        cases p with
        | @cons e _ es _ p1 p2 p3 =>
          obtain ⟨yk, yv⟩ := y
          obtain ⟨e1, e2⟩ := r1
          have e1' : k = yk := e1
          subst e1'
          have e2' : RelV v e.val := by rw [p2]; exact e2
          have sh' : ((keyD k).showable = true ∧ d.showable = true) ∧ PyData.showableKv kvs = true := by simpa [PyData.showableKv] using sh
          have z0 := sz ((keyD k).shown ++ ": " ++ d.shown) (by simp only [PyData.shownKv]; exact List.mem_cons_self)
          obtain ⟨a0, b0, q0, m0, k0⟩ := key_sees I (k := k) (u := e.key) p1 sh'.1.1 (Nat.le_trans kv_le_l z0)
          obtain ⟨a1, b1, q1, m1, k1⟩ := Dx.sees I d _ _ h1 e2' sh'.1.2 (Nat.le_trans kv_le_r z0)
          obtain ⟨c1, c2, b2, q2, q3, m2, k2, k3⟩ := Dx.seesKv I kvs _ _ _ h2 r2 p3 sh'.2 fun t ht => sz t (by simp only [PyData.shownKv]; exact List.mem_cons_of_mem _ ht)
          refine ⟨_, _, b0 ++ (b1 ++ b2), ReadsAll.cons q0 q2, ReadsAll.cons q1 q3, fun b hb => ?_, ?_, ?_⟩
          · simp only [PyData.depthKv]
            rcases List.mem_append.mp hb with hb | hb
            · obtain ⟨d', a', r', y⟩ := m0 b hb
              exact ⟨d', a', r', by omega⟩
            · rcases List.mem_append.mp hb with hb | hb
              · obtain ⟨d', a', r', y⟩ := m1 b hb
                exact ⟨d', a', r', by omega⟩
              · obtain ⟨d', a', r', y⟩ := m2 b hb
                exact ⟨d', a', r', by omega⟩
          · simp only [PyData.depthKv, List.map_cons, PyData.shownAll]
            exact .cons ((k0.more fun b hb => List.mem_append.mpr (.inl hb)).level_le (by omega)) (k2.more_le (fun b hb => List.mem_append.mpr (.inr (List.mem_append.mpr (.inr hb)))) (by omega))
          · simp only [PyData.depthKv, List.map_cons, PyData.shownAll]
            exact .cons ((k1.more fun b hb => List.mem_append.mpr (.inr (List.mem_append.mpr (.inl hb)))).level_le (by omega)) (k3.more_le (fun b hb => List.mem_append.mpr (.inr (List.mem_append.mpr (.inr hb)))) (by omega))
end
/-- repr of data of any kind, dicts within -/
def rReprX (K : PySem.W.Frag) : List V → Hp → VK → Prop := fun xs H Q => ∃ (x : V) (d : PyData), xs = [x] ∧ Dx K H x d ∧ d.showable = true ∧ d.depth ≤ 60 ∧ d.shown.length ≤ sizeLine ∧ Q (.str d.shown) H
theorem call_reprX (hg : X.A.guards = some []) (hu : X.A.units + 64 < cLine) : CallR X (.builtin "repr") (rReprX X.K) := by
  intro pins s σ H xs us Q I r h
  obtain ⟨x, d, rfl, hd, sh, dp, sz, q⟩ := h
  cases hd with
  | int i => exact call_reprA hg hu pins s σ H _ us Q I r ⟨_, _, rfl, .int i, sh, dp, sz, q⟩
  | non => exact call_reprA hg hu pins s σ H _ us Q I r ⟨_, _, rfl, .non, sh, dp, sz, q⟩
  | bl b => exact call_reprA hg hu pins s σ H _ us Q I r ⟨_, _, rfl, .bl b, sh, dp, sz, q⟩
  | str z => exact call_reprA hg hu pins s σ H _ us Q I r ⟨_, _, rfl, .str z, sh, dp, sz, q⟩
  | @lst a xs ds hs hd =>
    have dp' : PyData.depthAll ds + 1 ≤ 60 := by simpa only [PyData.depth] using dp
    obtain ⟨u, rfl, ru⟩ := vals1 r
    cases (show u = Value.ref a from ru)
    obtain ⟨its, rv, ⟨o, n, ho, hc, _, hdd⟩, _⟩ := I.list (SqL.of hs)
    have sz' : (listText (PyData.shownAll ds)).length ≤ sizeLine := by simpa only [PyData.shown] using sz
    obtain ⟨as, bs, hr, hb, hk⟩ := Dx.seesAll I ds xs its hd rv (by simpa only [PyData.showable] using sh) fun t ht => Nat.le_trans (listText_mem_le ht) sz'
    have rd : Reads s.heap (.ref a) (.list ds) _ := .list ho hc hdd hr
    have new : a ∉ bs := not_mem_of_deeper rd (by simp only [PyData.depth]; omega) hb
    refine call_repr_slot (T := "list") (by omega) ⟨o, ho, hc⟩ PySem.F.slot_list_repr.toG ?_
    cases its with
    | nil =>
      cases hr
      have e0 : (PyData.list []).shown = ("[]" : Str) := by simp only [PyData.shown, PyData.shownAll, listText_nil]
      refine call_list_repr_empty ⟨o, ho, hc⟩ ho hdd ⟨_, _, rfl, .str (PyData.list []).shown, H, ?_, ⟨_, by rw [e0]⟩, q⟩
      exact I.kept (t' := _) fun _ _ y => y
    | cons y l =>
      refine call_list_reprK ho hc hdd new (by simpa using hk.length_eq) (fun i y e => hk.item i y (by simpa using e)) hg (fun b _ => Clear.nil b) (by show X.A.units + 1 + (PyData.depthAll ds + 1) < cLine; omega) (fun _ _ e => e) (fun h' u tk keep => ?_) sz'
      refine ⟨_, _, rfl, .str (PyData.list ds).shown, H, I.kept keep, ⟨u, ?_⟩, q⟩
      simp only [PyData.shown]
  | @tup a xs ds hs hd =>
    have dp' : PyData.depthAll ds + 1 ≤ 60 := by simpa only [PyData.depth] using dp
    obtain ⟨u, rfl, ru⟩ := vals1 r
    cases (show u = Value.ref a from ru)
    obtain ⟨its, rv, ⟨o, ho, hc, n, hdd⟩, _⟩ := I.tuple (SqT.of hs)
    have sz' : (tupleText (PyData.shownAll ds)).length ≤ sizeLine := by simpa only [PyData.shown] using sz
    obtain ⟨as, bs, hr, hb, hk⟩ := Dx.seesAll I ds xs its hd rv (by simpa only [PyData.showable] using sh) fun t ht => Nat.le_trans (tupleText_mem_le ht) sz'
    have rd : Reads s.heap (.ref a) (.tuple ds) _ := .tuple ho hc hdd hr
    have new : a ∉ bs := not_mem_of_deeper rd (by simp only [PyData.depth]; omega) hb
    refine call_repr_slot (T := "tuple") (by omega) ⟨o, ho, hc⟩ PySem.F.slot_tuple_repr (call_tuple_reprK ho hc hdd new hk hg (fun b _ => Clear.nil b) (by show X.A.units + 1 + (PyData.depthAll ds + 1) < cLine; omega) (fun _ _ e => e) (fun h' u tk keep => ?_) sz')
    refine ⟨_, _, rfl, .str (PyData.tuple ds).shown, H, I.kept keep, ⟨u, ?_⟩, q⟩
    simp only [PyData.shown]
  | @dic a rows kvs hs hd =>
    have dp' : PyData.depthKv kvs + 1 ≤ 60 := by simpa only [PyData.depth] using dp
    obtain ⟨u, rfl, ru⟩ := vals1 r
    cases (show u = Value.ref a from ru)
    obtain ⟨_, hne, vs, rv, o, es, ep, h1, h2, h3, _, h4, _⟩ := dk_of I.hok hs
    have sz' : (dictText (PyData.shownKv kvs)).length ≤ sizeLine := by simpa only [PyData.shown] using sz
    obtain ⟨as1, as2, bs, r1, r2, hb, k1, k2⟩ := Dx.seesKv I kvs rows vs es.toList hd rv h4 (by simpa [PyData.showable] using sh) fun t ht => Nat.le_trans (dictText_mem_le ht) sz'
    have rd : Reads s.heap (.ref a) (.dict kvs) _ := .dict h1 h2.1 h3 r1 r2
    have new : a ∉ bs := not_mem_of_deeper rd (by simp only [PyData.depth]; omega) hb
    have e1 := ReprEntriesK.of_two es.toList _ _ k1 k2
    rw [← PyData.shownKv_eq] at e1
    refine call_repr_slot (T := "dict") (by omega) ⟨o, h1, h2.1⟩ PySem.F.slot_dict_repr (call_dict_reprK h1 h2.1 h3 hne new e1 hg (fun b _ => Clear.nil b) (by show X.A.units + 1 + (PyData.depthKv kvs + 1) < cLine; omega) (fun _ _ e => e) (fun h' u tk keep => ?_) sz')
    refine ⟨_, _, rfl, .str (PyData.dict kvs).shown, H, I.kept keep, ⟨u, ?_⟩, q⟩
    simp only [PyData.shown]
end
end Af

set_option Elab.async false
set_option linter.all false
set_option maxRecDepth 100000
namespace Af
open PySem PySem.Spec PySem.Calls PyProof.Rows PySem.SeqAt L2
open AutoSeq1 (wpAny_loadPart')
/-! a tuple times 0, 1, or more -/
theorem mul_one (l : Addr) (items : Array Value) (n : Nat) (dd : Option Addr) (sl : Array (Option Value)) (u : Tok) :
    Meets (Builtin.«tuple.__mul__» ⟨[.ref l, .int 1 u], []⟩) (fun _ R s => s.heap.get? l = some { cls := .type "tuple", dict := dd, data := .seq items n, slots := sl } ∧ R (.ok (.ret (Value.ref l))) s) :=
  .of_wp fun prog w A R s h => by
    obtain ⟨hp, g, d, tk, os⟩ := s
    obtain ⟨hl, h⟩ := h
    have f1 := AutoSeq1.idx_int
    wp_walk using wpAny_loadPart' hl
    exact ⟨_, rfl, h⟩
theorem mul_zero (l : Addr) (items : Array Value) (n : Nat) (dd : Option Addr) (sl : Array (Option Value)) (u : Tok) (hi : items.isEmpty = false) :
    Meets (Builtin.«tuple.__mul__» ⟨[.ref l, .int 0 u], []⟩) (fun _ R s => s.heap.get? l = some { cls := .type "tuple", dict := dd, data := .seq items n, slots := sl } ∧
      R (.ok (.ret (Value.ref s.heap.objs.size))) { s with heap := s.heap.push { cls := Value.type "tuple", data := Data.seq #[] }, toks := s.toks }) :=
  .of_wp fun prog w A R s h => by
    obtain ⟨hp, g, d, tk, os⟩ := s
    obtain ⟨hl, h⟩ := h
    have f1 := AutoSeq1.idx_int
    wp_walk using wpAny_loadPart' hl
    exact ⟨_, rfl, h⟩
def rRepT' : R2 := fun x y H Q => ∃ l k xs, x = .ref l ∧ y = .int k ∧ H l = some (.tup xs) ∧ xs ≠ [] ∧ 0 ≤ k ∧ k ≤ 1000 ∧ xs.length ≤ 1000 ∧ NewT (List.replicate k.toNat xs).flatten H Q
theorem op_repT' {X : Cx} : OpR X (binaryOp .Mult) rRepT' := by
  intro pins s σ H x y v u Q I rx ry h
  obtain ⟨l, k, xs, rfl, rfl, hT, ne, h1, h2, hz, q⟩ := h
  by_cases two : 2 ≤ k
  · exact op_repT pins s σ H _ _ v u Q I rx ry ⟨l, k, xs, rfl, rfl, SqT.of hT, ne, two, h2, hz, fun p hp => q p _ (same_new hp) upd_same⟩
  cases (show v = Value.ref l from rx)
  obtain ⟨t, rfl⟩ := (show ∃ t, u = Value.int k t from ry)
  obtain ⟨its, r, ⟨⟨cls, dd, data, sl⟩, ho, hc, n, hd⟩, hs⟩ := I.tuple (SqT.of hT)
  simp only at hc hd
  subst hc hd
  have many : its.length = xs.length := r.length.symm
  have some_ : its.toArray.isEmpty = false := by
    cases its with
    | nil => exact absurd (List.eq_nil_of_length_eq_zero many.symm) ne
    | cons a b => rfl
  have go : ∀ {R : Value → Shared → Prop} {E : Value → Shared → Prop}, wpAny (model X.prog X.w) X.A.in1 (call (.builtin "tuple.__mul__") [.ref l, .int k t]) R E s → True := fun _ => trivial
  rcases (show k = 0 ∨ k = 1 by omega) with rfl | rfl
  · refine wpAny_binaryOp_repeat_ref (T := "tuple") (U := "int") (by decide) ⟨_, ho, rfl⟩ (fun s' => typeIs_int s' 0 t) noFill_tuple_mul F.fills_int_mul F.slot_int_rmul repeat_tuple F.slot_int_index.lookup
      (call_meets F.slot_int_rmul (typeIs_int s 0 t) F.entry_int_rmul (F.args_int_rmul_2 _ _) (int_rmul_tuple 0 t l its.toArray n dd sl) ⟨ho, rfl, ⟨_, ho, rfl⟩, call_meets F.slot_tuple_mul ⟨_, ho, rfl⟩ F.entry_tuple_mul (F.args_tuple_mul_2 _ _) (mul_zero l its.toArray n dd sl t some_) ⟨ho, ?_⟩⟩)
    exact ⟨.ref s.heap.objs.size, _, I.laid (t' := s.toks) (o := .tup []) (fun b ob y => Heap.get?_push_of_some _ y) (Nat.le_refl _) ⟨Nat.zero_le _, [], .nil, PyProof.Rows.IsTup.new _ _⟩, rfl, q _ _ (same_new (I.hok.fresh (Nat.le_refl _))) upd_same⟩
  · refine wpAny_binaryOp_repeat_ref (T := "tuple") (U := "int") (by decide) ⟨_, ho, rfl⟩ (fun s' => typeIs_int s' 1 t) noFill_tuple_mul F.fills_int_mul F.slot_int_rmul repeat_tuple F.slot_int_index.lookup
      (call_meets F.slot_int_rmul (typeIs_int s 1 t) F.entry_int_rmul (F.args_int_rmul_2 _ _) (int_rmul_tuple 1 t l its.toArray n dd sl) ⟨ho, rfl, ⟨_, ho, rfl⟩, call_meets F.slot_tuple_mul ⟨_, ho, rfl⟩ F.entry_tuple_mul (F.args_tuple_mul_2 _ _) (mul_one l its.toArray n dd sl t) ⟨ho, ?_⟩⟩)
    refine ⟨.ref l, H, I, rfl, q l H (Same.refl H) ?_⟩
    rw [hT]
    show some (HO.tup xs) = some (HO.tup (List.replicate 1 xs).flatten)
    simp
end Af

set_option Elab.async false
set_option linter.all false
set_option maxRecDepth 100000
namespace Af
open PySem PySem.Spec PyProof.Rows L2
/-! data whose text is not long -/
/-- its text has at most b signs, it can be shown, it nests at most n deep -/
structure Bd (b n : Nat) (d : PyData) : Prop where
  tx : d.shown.length ≤ b
  sh : d.showable = true
  dp : d.depth ≤ n
theorem Bd.mono {b n b' n' : Nat} {d : PyData} (h : Bd b n d) (h1 : b ≤ b') (h2 : n ≤ n') : Bd b' n' d := ⟨Nat.le_trans h.tx h1, h.sh, Nat.le_trans h.dp h2⟩
theorem Bd.flat {d : PyData} (h : flatD d = true) : Bd 45 1 d := by
  obtain ⟨h1, h2, h3⟩ := flat_len h
  exact ⟨h1, h2, h3⟩
theorem Bd.lst {b n k : Nat} {ds : List PyData} (h : ∀ d ∈ ds, Bd b n d) (hl : ds.length ≤ k) : Bd (k * (b + 2) + 3) (n + 1) (.list ds) := by
  obtain ⟨t, _⟩ := texts_le fun d hd => (h d hd).tx
  have e : ds.length * (b + 2) ≤ k * (b + 2) := Nat.mul_le_mul_right _ hl
  have e2 : ds.length * (b + 2) = b * ds.length + 2 * ds.length := by rw [Nat.mul_add, Nat.mul_comm ds.length b, Nat.mul_comm ds.length 2]
  refine ⟨?_, ?_, ?_⟩
  · simp only [PyData.shown]
    omega
  · simp only [PyData.showable]
    exact showAll_of fun d hd => (h d hd).sh
  · simp only [PyData.depth]
    have := depthAll_of fun d hd => (h d hd).dp
    omega
theorem Bd.tup {b n k : Nat} {ds : List PyData} (h : ∀ d ∈ ds, Bd b n d) (hl : ds.length ≤ k) : Bd (k * (b + 2) + 3) (n + 1) (.tuple ds) := by
  obtain ⟨_, t⟩ := texts_le fun d hd => (h d hd).tx
  have e : ds.length * (b + 2) ≤ k * (b + 2) := Nat.mul_le_mul_right _ hl
  have e2 : ds.length * (b + 2) = b * ds.length + 2 * ds.length := by rw [Nat.mul_add, Nat.mul_comm ds.length b, Nat.mul_comm ds.length 2]
  refine ⟨?_, ?_, ?_⟩
  · simp only [PyData.shown]
    omega
  · simp only [PyData.showable]
    exact showAll_of fun d hd => (h d hd).sh
  · simp only [PyData.depth]
    have := depthAll_of fun d hd => (h d hd).dp
    omega
theorem mem_shown {ds : List PyData} {d : PyData} (h : d ∈ ds) : d.shown ∈ PyData.shownAll ds := by
  induction ds with
  | nil => simp at h
  | cons a r ih =>
    simp only [PyData.shownAll]
    rcases List.mem_cons.mp h with rfl | h
    · exact List.mem_cons_self
    · exact List.mem_cons_of_mem _ (ih h)
theorem piled_ge : ∀ ts : List Str, 2 * ts.length ≤ piled ts
  | [] => Nat.zero_le _
  | t :: ts => by
    have := piled_ge ts
    simp only [piled, List.map_cons, List.sum_cons, List.length_cons] at *
    omega
theorem th_text {K : PySem.W.Frag} {H : Hp} : ∀ {n : Nat} {x : V} {d : PyData}, Dq K H x d → d.shown.length ≤ 200000 → Th K H n x
  | 0, _, _, h, _ => dq_ty h
  | n + 1, x, d, h, sz => by
    refine ⟨dq_ty h, fun a xs e z => ?_⟩
    subst e
    have key : ∀ ds, DqAll K H xs ds → (∀ y ∈ ds, y.shown.length ≤ 200000) → 2 * ds.length ≤ 200000 → xs.length ≤ 100000 ∧ ∀ y ∈ xs, Th K H n y := fun ds t q l => by
      refine ⟨by rw [t.len]; omega, fun y hy => ?_⟩
      obtain ⟨d', m1, m2⟩ := t.mem hy
      exact th_text m2 (q d' m1)
    cases h with
    | @lst _ ys ds e t =>
      have p := piled_le_listText (PyData.shownAll ds)
      have g := piled_ge (PyData.shownAll ds)
      rw [shownAll_len] at g
      simp only [PyData.shown] at sz
      rcases z with z | z
      · rw [e] at z; cases z
      · rw [e] at z; cases z; exact key ds t (fun y hy => Nat.le_trans (listText_mem_le (mem_shown hy)) sz) (by omega)
    | @tup _ ys ds e t =>
      have p := piled_le_tupleText (PyData.shownAll ds)
      have g := piled_ge (PyData.shownAll ds)
      rw [shownAll_len] at g
      simp only [PyData.shown] at sz
      rcases z with z | z
      · rw [e] at z; cases z; exact key ds t (fun y hy => Nat.le_trans (tupleText_mem_le (mem_shown hy)) sz) (by omega)
      · rw [e] at z; cases z
    | dic e => rcases z with z | z <;> (rw [e] at z; cases z)
def few : PyData → Prop
  | .list l => l.length ≤ 100
  | _ => True
end Af

set_option Elab.async false
set_option linter.all false
set_option maxRecDepth 100000
namespace Af
open PySem PySem.Spec PyProof.Rows L2
/-! a heap without the lists that are changed -/
def hd (p : Addr) (H : Hp) : Hp := fun a => if a = p then none else H a
theorem hd_ne {p a : Addr} {H : Hp} (h : a ≠ p) : hd p H a = H a := if_neg h
theorem hd_in {p : Addr} {H : Hp} : Same (hd p H) H := fun a o e => by
  by_cases h : a = p
  · rw [h] at e
    rw [show hd p H p = none from if_pos rfl] at e
    cases e
  · rw [hd_ne h] at e
    exact e
theorem hd_same {p : Addr} {H H' : Hp} (s : Same H H') : Same (hd p H) (hd p H') := fun a o e => by
  by_cases h : a = p
  · rw [h] at e
    rw [show hd p H p = none from if_pos rfl] at e
    cases e
  · rw [hd_ne h] at e ⊢
    exact s a o e
theorem hd_kp {p : Addr} {H H' : Hp} (k : Kp p H H') : Same (hd p H) (hd p H') := fun a o e => by
  by_cases h : a = p
  · rw [h] at e
    rw [show hd p H p = none from if_pos rfl] at e
    cases e
  · rw [hd_ne h] at e ⊢
    exact k a o (.inl h) e
theorem hd_upd {p : Addr} {H : Hp} {o : HO} : hd p (upd H p o) = hd p H := funext fun a => by
  by_cases h : a = p
  · rw [h]
    exact (if_pos rfl).trans (if_pos rfl).symm
  · rw [hd_ne h, hd_ne h, upd_ne h]
theorem hd_comm {p l : Addr} {H : Hp} : hd l (hd p H) = hd p (hd l H) := funext fun a => by
  by_cases h : a = p
  · by_cases g : a = l
    · rw [show hd l (hd p H) a = none from if_pos g, show hd p (hd l H) a = none from if_pos h]
    · rw [hd_ne g, show hd p H a = none from if_pos h, show hd p (hd l H) a = none from if_pos h]
  · by_cases g : a = l
    · rw [show hd l (hd p H) a = none from if_pos g, hd_ne h, show hd l H a = none from if_pos g]
    · rw [hd_ne g, hd_ne h, hd_ne h, hd_ne g]
theorem kp_hd {p : Addr} {H : Hp} {ys : List V} (e : H p = some (.lst ys)) : Kp p H (hd p H) := fun a o n k => by
  by_cases h : a = p
  · rcases n with n | n
    · exact absurd h n
    · rw [h, e] at k
      exact absurd (Option.some.inj k).symm (n ys)
  · rw [hd_ne h]
    exact k
/-- what is new is hidden: all else stands -/
theorem same_hd {p : Addr} {H H' : Hp} (n : H p = none) (s : Same H H') : Same H (hd p H') := fun a o e => by
  rw [hd_ne (fun h => by rw [h, n] at e; cases e)]
  exact s a o e
/-- the heap G with both hidden -/
abbrev hd2 (p l : Addr) (H : Hp) : Hp := hd l (hd p H)
theorem hd2_at {p l a : Addr} {H : Hp} {o : HO} (e : H a = some o) (h1 : a ≠ p) (h2 : a ≠ l) : hd2 p l H a = some o := by
  show hd l (hd p H) a = some o
  rw [hd_ne h2, hd_ne h1]
  exact e
theorem hd2_same {p l : Addr} {H H' : Hp} (s : Same H H') : Same (hd2 p l H) (hd2 p l H') := hd_same (hd_same s)
theorem hd2_kp {p l : Addr} {H H' : Hp} (k : Kp p H H') : Same (hd2 p l H) (hd2 p l H') := hd_same (hd_kp k)
theorem hd2_upd {p l : Addr} {H : Hp} {o : HO} : hd2 p l (upd H l o) = hd2 p l H := by
  show hd l (hd p (upd H l o)) = hd l (hd p H)
  rw [hd_comm, hd_upd, hd_comm]
theorem hd2_in {p l : Addr} {H : Hp} : Same (hd2 p l H) H := fun a o e => hd_in a o (hd_in a o e)
section
variable {K : PySem.W.Frag}
theorem dq_stepV {H : Hp} {x : V} {st : Stp} (h : StepV H x st) : Dq K H x (stepD st) := by
  cases st with
  | none =>
    have e : x = V.non := h
    subst e
    exact .non
  | some fw =>
    obtain ⟨f, ws⟩ := fw
    obtain ⟨a, b, rfl, h1, h2⟩ := h
    refine .tup h1 (.cons (.int f) (.cons (.tup h2 ?_) .nil))
    clear h2
    induction ws with
    | nil => exact .nil
    | cons n ns ih => exact .cons (.int n) ih
theorem dq_ints {H : Hp} : ∀ ns : List Int, DqAll K H (ivs ns) (dvs ns)
  | [] => .nil
  | n :: ns => .cons (.int n) (dq_ints ns)
theorem dq_stepsV {H : Hp} : ∀ {xs : List V} {sts : List Stp}, Paired (StepV H) xs sts → DqAll K H xs (stepsD sts)
  | _, _, .nil => .nil
  | _, _, .cons h t => .cons (dq_stepV h) (dq_stepsV t)
theorem DqAll.app {H : Hp} : ∀ {xs ys : List V} {ds es : List PyData}, DqAll K H xs ds → DqAll K H ys es → DqAll K H (xs ++ ys) (ds ++ es)
  | _, _, _, _, .nil, h => h
  | _, _, _, _, .cons r t, h => .cons r (t.app h)
theorem DqAll.take {H : Hp} : ∀ {xs : List V} {ds : List PyData} (n : Nat), DqAll K H xs ds → DqAll K H (xs.take n) (ds.take n)
  | _, _, 0, _ => by
    rw [List.take_zero, List.take_zero]
    exact .nil
  | _, _, n + 1, .nil => .nil
  | _, _, n + 1, .cons r t => .cons r (t.take n)
theorem DqAll.drop {H : Hp} : ∀ {xs : List V} {ds : List PyData} (n : Nat), DqAll K H xs ds → DqAll K H (xs.drop n) (ds.drop n)
  | _, _, 0, h => h
  | _, _, n + 1, .nil => .nil
  | _, _, n + 1, .cons r t => t.drop n
theorem DqAll.rep {H : Hp} {x : V} {d : PyData} (h : Dq K H x d) : ∀ n : Nat, DqAll K H (List.replicate n [x]).flatten (List.replicate n d)
  | 0 => .nil
  | n + 1 => .cons h (DqAll.rep h n)
/-- a thing, told by data that is not long -/
def Tg (K : PySem.W.Frag) (G : Hp) (b n : Nat) (P : PyData → Prop) (x : V) : Prop := ∃ d, Dq K G x d ∧ Bd b n d ∧ P d
theorem Tg.same {G G' : Hp} {b n : Nat} {P : PyData → Prop} {x : V} (h : Tg K G b n P x) (s : Same G G') : Tg K G' b n P x := by
  obtain ⟨d, h1, h2, h3⟩ := h
  exact ⟨d, Dq.same s d x h1, h2, h3⟩
end
end Af

set_option Elab.async false
set_option linter.all false
set_option maxRecDepth 100000
namespace Af
open PySem L2
/-- a drawn plan whose list of steps is neither the pen's nor the one at l -/
structure PlanL (p l : Addr) (H : Hp) (v : V) (pl : Pl) : Prop where
  ex : ∃ a ca sa xs, v = .ref a ∧ H a = some (.tup [.ref ca, .int pl.w, .ref sa]) ∧ H ca = some (.tup (ivs pl.cs)) ∧ sa ≠ p ∧ sa ≠ l ∧ H sa = some (.lst xs) ∧ Paired (StepV H) xs pl.sts
theorem PlanL.v {p l : Addr} {H : Hp} {v : V} {pl : Pl} (h : PlanL p l H v pl) : PlanV p H v pl := by
  obtain ⟨a, ca, sa, xs, e, h1, h2, n, _, h3, h4⟩ := h.ex
  exact ⟨a, ca, sa, xs, e, h1, h2, n, h3, h4⟩
theorem PlanV.toL {p l : Addr} {H H' : Hp} {v : V} {pl : Pl} (h : PlanV p H v pl) (n : H l = none) (s : Same H H') : PlanL p l H' v pl := by
  obtain ⟨a, ca, sa, xs, e, h1, h2, np, h3, h4⟩ := h.ex
  exact ⟨a, ca, sa, xs, e, s _ _ h1, s _ _ h2, np, ne_of_none h3 n, s _ _ h3, steps_same s h4⟩
theorem PlanL.same {p l : Addr} {H H' : Hp} {v : V} {pl : Pl} (h : PlanL p l H v pl) (s : Same H H') : PlanL p l H' v pl := by
  obtain ⟨a, ca, sa, xs, e, h1, h2, np, nl, h3, h4⟩ := h.ex
  exact ⟨a, ca, sa, xs, e, s _ _ h1, s _ _ h2, np, nl, s _ _ h3, steps_same s h4⟩
theorem kp_upd {l : Addr} {H : Hp} {ys zs : List V} (e : H l = some (.lst ys)) : Kp l H (L2.upd H l (.lst zs)) := fun a o n k => by
  by_cases z : a = l
  · rcases n with n | n
    · exact absurd z n
    · rw [z, e] at k
      exact absurd (Option.some.inj k).symm (n ys)
  · rw [upd_ne z]
    exact k
theorem PlanL.upd {p l : Addr} {H : Hp} {v : V} {pl : Pl} {ys zs : List V} (h : PlanL p l H v pl) (e : H l = some (.lst ys)) : PlanL p l (L2.upd H l (.lst zs)) v pl := by
  have k := kp_upd (zs := zs) e
  obtain ⟨a, ca, sa, xs, e, h1, h2, np, nl, h3, h4⟩ := h.ex
  exact ⟨a, ca, sa, xs, e, k.tup h1, k.tup h2, np, nl, k.lst nl h3, steps_kp k h4⟩
/-- a list of plans that the program takes -/
def PlansL (p l : Addr) (H : Hp) (vs : List V) : Prop := ∀ v ∈ vs, ∃ pl, PlanL p l H v pl ∧ Good 40 40 pl
def Plans (p : Addr) (H : Hp) (vs : List V) : Prop := ∀ v ∈ vs, ∃ pl, PlanV p H v pl ∧ Good 40 40 pl
theorem Plans.toL {p l : Addr} {H H' : Hp} {vs : List V} (h : Plans p H vs) (n : H l = none) (s : Same H H') : PlansL p l H' vs := fun v hv => by
  obtain ⟨pl, h1, h2⟩ := h v hv
  exact ⟨pl, h1.toL n s, h2⟩
theorem PlansL.v {p l : Addr} {H : Hp} {vs : List V} (h : PlansL p l H vs) : Plans p H vs := fun v hv => by
  obtain ⟨pl, h1, h2⟩ := h v hv
  exact ⟨pl, h1.v, h2⟩
theorem PlansL.same {p l : Addr} {H H' : Hp} {vs : List V} (h : PlansL p l H vs) (s : Same H H') : PlansL p l H' vs := fun v hv => by
  obtain ⟨pl, h1, h2⟩ := h v hv
  exact ⟨pl, h1.same s, h2⟩
theorem PlansL.upd {p l : Addr} {H : Hp} {vs ys zs : List V} (h : PlansL p l H vs) (e : H l = some (.lst ys)) : PlansL p l (L2.upd H l (.lst zs)) vs := fun v hv => by
  obtain ⟨pl, h1, h2⟩ := h v hv
  exact ⟨pl, h1.upd e, h2⟩
theorem PlansL.app {p l : Addr} {H : Hp} {vs us : List V} (h : PlansL p l H vs) (k : PlansL p l H us) : PlansL p l H (vs ++ us) := fun v hv => by
  rcases List.mem_append.mp hv with hv | hv
  · exact h v hv
  · exact k v hv
theorem PlansL.one {p l : Addr} {H : Hp} {v : V} {pl : Pl} (h : PlanL p l H v pl) (g : Good 40 40 pl) : PlansL p l H [v] := fun u hu => by
  rw [List.mem_singleton.mp hu]
  exact ⟨pl, h, g⟩
theorem Plans.nil {p : Addr} {H : Hp} : Plans p H [] := fun v hv => by simp at hv
theorem Plans.app {p : Addr} {H : Hp} {vs us : List V} (h : Plans p H vs) (k : Plans p H us) : Plans p H (vs ++ us) := fun v hv => by
  rcases List.mem_append.mp hv with hv | hv
  · exact h v hv
  · exact k v hv
theorem Plans.cons {p : Addr} {H : Hp} {v : V} {vs : List V} {pl : Pl} (h : PlanV p H v pl) (g : Good 40 40 pl) (k : Plans p H vs) : Plans p H (v :: vs) := fun u hu => by
  rcases List.mem_cons.mp hu with rfl | hu
  · exact ⟨pl, h, g⟩
  · exact k u hu
theorem Plans.same {p : Addr} {H H' : Hp} {vs : List V} (h : Plans p H vs) (s : Same H H') : Plans p H' vs := fun v hv => by
  obtain ⟨pl, h1, h2⟩ := h v hv
  exact ⟨pl, h1.same s, h2⟩
/-- a plan changed at one place -/
theorem Good.cells {pl : Pl} {cs : List Int} (g : Good 40 40 pl) (c1 : pl.cs.length ≤ cs.length) (c2 : cs.length ≤ 24) (cb : ∀ z ∈ cs, 0 ≤ z ∧ z < 8) : Good 40 40 ⟨cs, pl.w, pl.sts⟩ := by
  refine ⟨Nat.le_trans g.c1 c1, c2, cb, g.w1, g.w24, fun x hx => ?_, g.sl, g.tl⟩
  have o := g.st x hx
  cases x with
  | none => exact True.intro
  | some fw =>
    obtain ⟨f, ws⟩ := fw
    obtain ⟨o1, o2, o3, o4⟩ := o
    exact ⟨o1, o2, by show f + (ws.length : Int) ≤ (cs.length : Int); omega, o4⟩
theorem Good.width {pl : Pl} {w : Int} (g : Good 40 40 pl) (h1 : 1 ≤ w) (h2 : w ≤ 24) : Good 40 40 ⟨pl.cs, w, pl.sts⟩ := ⟨g.c1, g.c24, g.cb, h1, h2, g.st, g.sl, g.tl⟩
theorem Good.steps {s t : Nat} {pl : Pl} {sts : List Stp} (g : Good s t pl) (h : ∀ x ∈ sts, OkS pl.cs.length x) (h1 : sts.length ≤ 40) (h2 : tot sts ≤ 40) : Good 40 40 ⟨pl.cs, pl.w, sts⟩ := ⟨g.c1, g.c24, g.cb, g.w1, g.w24, h, h1, h2⟩
theorem tot_drop_le (l : List Stp) (n : Nat) : tot (l.drop n) ≤ tot l := by
  have := tot_take_drop l n
  omega
/-- one step taken out, another one put in its place -/
theorem steps_at {l : List Stp} {i : Nat} {a b : Stp} {n : Nat} (hi : l[i]? = some a) (hb : stl b = stl a) (ob : OkS n b) (ok : ∀ x ∈ l, OkS n x) :
    (∀ x ∈ (l.take i ++ [b]) ++ l.drop (i + 1), OkS n x) ∧ ((l.take i ++ [b]) ++ l.drop (i + 1)).length = l.length ∧ tot ((l.take i ++ [b]) ++ l.drop (i + 1)) = tot l := by
  have hlt : i < l.length := (List.getElem?_eq_some_iff.mp hi).1
  have e : l.drop i = a :: l.drop (i + 1) := by
    rw [List.drop_eq_getElem_cons hlt]
    congr 1
    rw [List.getElem?_eq_getElem hlt] at hi
    exact Option.some.inj hi
  refine ⟨fun x hx => ?_, ?_, ?_⟩
  · rcases List.mem_append.mp hx with hx | hx
    · rcases List.mem_append.mp hx with hx | hx
      · exact ok x (List.mem_of_mem_take hx)
      · rw [List.mem_singleton.mp hx]
        exact ob
    · exact ok x (List.mem_of_mem_drop hx)
  · rw [List.length_append, List.length_append, List.length_take, List.length_drop]
    show min i l.length + 1 + (l.length - (i + 1)) = l.length
    omega
  · rw [tot_app, tot_app, tot_one, hb]
    have t := tot_take_drop l i
    rw [e, tot_cons] at t
    omega
end Af

set_option Elab.async false
set_option linter.all false
set_option maxRecDepth 100000
namespace Af
open PySem PySem.Spec PyProof.Rows L2
theorem same_hd2 {p D : Addr} {H H' : Hp} (n : H D = none) (s : Same H H') : Same (hd p H) (hd2 p D H') := fun a o e => by
  have ap : a ≠ p := fun h => by
    rw [h, show hd p H p = none from if_pos rfl] at e
    cases e
  rw [hd_ne ap] at e
  exact hd2_at (s a o e) ap (fun h => by rw [h, n] at e; cases e)
theorem hd2_to {p l l' : Addr} {H H' : Hp} (n : H l' = none) (s : Same H H') : Same (hd2 p l H) (hd2 p l' H') := fun a o e => by
  have e1 := hd2_in a o e
  have ap : a ≠ p := fun h => by
    have e2 := hd_in a o e
    rw [h, show hd p H p = none from if_pos rfl] at e2
    cases e2
  exact hd2_at (s a o e1) ap (fun h => by rw [h, n] at e1; cases e1)
theorem len_stepsD : ∀ l : List Stp, (stepsD l).length = l.length
  | [] => rfl
  | a :: r => by
    show (stepsD r).length + 1 = r.length + 1
    rw [len_stepsD r]
theorem flat_small {z : Int} (h : 0 ≤ z ∧ z < 8) : flatD (.int z) = true := by
  have k : ∀ n : Fin 8, flatD (.int ((n.val : Nat) : Int)) = true := by decide +kernel
  obtain ⟨n, rfl⟩ := Int.eq_ofNat_of_zero_le h.1
  exact k ⟨n, by omega⟩
theorem flat_place {z : Int} (h : 0 ≤ z ∧ z ≤ 64) : flatD (.int z) = true := by
  have k : ∀ n : Fin 65, flatD (.int ((n.val : Nat) : Int)) = true := by decide +kernel
  obtain ⟨n, rfl⟩ := Int.eq_ofNat_of_zero_le h.1
  exact k ⟨n, by omega⟩
theorem dvs_mem {ns : List Int} {d : PyData} (h : d ∈ dvs ns) : ∃ z ∈ ns, d = .int z := by
  obtain ⟨z, hz, e⟩ := List.mem_map.mp h
  exact ⟨z, hz, e.symm⟩
theorem bd_cells {ns : List Int} (hl : ns.length ≤ 25) (h : ∀ z ∈ ns, 0 ≤ z ∧ z < 8) : Bd 1200 2 (.tuple (dvs ns)) := by
  refine (Bd.tup (b := 45) (n := 1) (k := 25) (fun d hd => ?_) (by rw [show (dvs ns).length = ns.length from List.length_map ..]; exact hl)).mono (by decide) (by decide)
  obtain ⟨z, hz, rfl⟩ := dvs_mem hd
  exact Bd.flat (flat_small (h z hz))
theorem bd_step {n : Nat} {st : Stp} (o : OkS n st) (hn : n ≤ 24) : Bd 2500 3 (stepD st) := by
  cases st with
  | none => exact (Bd.flat rfl).mono (by decide) (by decide)
  | some fw =>
    obtain ⟨f, ws⟩ := fw
    obtain ⟨o1, o2, o3, o4⟩ := o
    refine (Bd.tup (b := 1200) (n := 2) (k := 2) (ds := [.int f, .tuple (dvs ws)]) (fun d hd => ?_) (Nat.le_refl 2)).mono (by decide) (by decide)
    simp only [List.mem_cons, List.not_mem_nil, or_false] at hd
    rcases hd with rfl | rfl
    · exact (Bd.flat (flat_place ⟨o1, by omega⟩)).mono (by decide) (by decide)
    · exact bd_cells (by omega) o4
theorem stepsD_mem {n : Nat} : ∀ {l : List Stp} {d : PyData}, (∀ x ∈ l, OkS n x) → d ∈ stepsD l → ∃ st ∈ l, d = stepD st
  | [], d, _, h => by cases h
  | a :: r, d, o, h => by
    rcases List.mem_cons.mp h with rfl | h
    · exact ⟨a, List.mem_cons_self, rfl⟩
    · obtain ⟨st, h1, h2⟩ := stepsD_mem (fun x hx => o x (List.mem_cons_of_mem _ hx)) h
      exact ⟨st, List.mem_cons_of_mem _ h1, h2⟩
theorem bd_steps {n : Nat} {l : List Stp} (o : ∀ x ∈ l, OkS n x) (hn : n ≤ 24) : ∀ d ∈ stepsD l, Bd 4000 6 d := fun d hd => by
  obtain ⟨st, h1, rfl⟩ := stepsD_mem o hd
  exact (bd_step (o st h1) hn).mono (by decide) (by decide)
/-- a triple that is no plan's -/
def BadT (K : PySem.W.Frag) (good : PyData → PyData → PyData → Bool) (G : Hp) (u : V) : Prop := ∃ t b w s db dw ds, u = .ref t ∧ G t = some (.tup [b, w, s]) ∧ Dq K G b db ∧ Dq K G w dw ∧ Dq K G s ds ∧ Bd 190000 20 db ∧ Bd 190000 20 dw ∧ Bd 190000 20 ds ∧ few ds ∧ good db dw ds = false
theorem BadT.same {K : PySem.W.Frag} {good : PyData → PyData → PyData → Bool} {G G' : Hp} {u : V} (h : BadT K good G u) (s : Same G G') : BadT K good G' u := by
  obtain ⟨t, b, w, v, db, dw, ds, e, h1, h2, h3, h4, r⟩ := h
  exact ⟨t, b, w, v, db, dw, ds, e, s _ _ h1, Dq.same s _ _ h2, Dq.same s _ _ h3, Dq.same s _ _ h4, r⟩
/-- a triple that was just laid -/
theorem bad_mk {K : PySem.W.Frag} {good : PyData → PyData → PyData → Bool} {p l t : Addr} {H : Hp} {b w v : V} {db dw ds : PyData} {ys zs : List V} (hp : H p = some (.lst ys)) (hl : H l = some (.lst zs)) (ht : H t = some (.tup [b, w, v])) (h2 : Dq K (hd2 p l H) b db) (h3 : Dq K (hd2 p l H) w dw) (h4 : Dq K (hd2 p l H) v ds)
    (b1 : Bd 190000 20 db) (b2 : Bd 190000 20 dw) (b3 : Bd 190000 20 ds) (f : few ds) (bad : good db dw ds = false) : BadT K good (hd2 p l H) (.ref t) :=
  ⟨t, b, w, v, db, dw, ds, rfl, hd2_at ht (ne_of ht hp (by intro q; cases q)) (ne_of ht hl (by intro q; cases q)), h2, h3, h4, b1, b2, b3, f, bad⟩
end Af

set_option Elab.async false
set_option linter.all false
set_option maxRecDepth 100000
set_option maxHeartbeats 4000000
namespace Af
open PySem PySem.Spec PyProof.Rows L2
theorem _root_.L2.Room.u1 {k : Nat} {A : Around} (r : L2.Room k A) : A.units + 1 < cLine := by have := r.units; omega
/-! patterns: dicts of cells and ascending worths; patterns among data -/
section
variable {K : PySem.W.Frag} {H : Hp}
theorem dx_ty {x : V} {d : PyData} (h : Dx K H x d) : ∃ n, Ty K H x n := by
  cases h with
  | non => exact ⟨_, .non, by decide, fun _ _ _ e => by cases e⟩
  | bl b => exact ⟨_, .bl b, by decide, fun _ _ _ e => by cases e⟩
  | int i => exact ⟨_, .int i, by decide, fun _ _ _ e => by cases e⟩
  | str z => exact ⟨_, .str z, by decide, fun _ _ _ e => by cases e⟩
  | lst e t => exact ⟨_, .lst e, by decide, fun b o u z q => by cases z; rw [e] at q; cases q⟩
  | tup e t => exact ⟨_, .tup e, by decide, fun b o u z q => by cases z; rw [e] at q; cases q⟩
  | dic e t => exact ⟨_, .dK e, by decide, fun b o u z q => by cases z; rw [e] at q; cases q⟩
theorem dx_idx {x : V} {d : PyData} (h : Dx K H x d) (m : Int) : idxB m x = idxD m d := by
  cases h <;> rfl
theorem dx_all {m : Int} : ∀ {xs : List V} {ds : List PyData}, DxAll K H xs ds → xs.all (idxB m) = ds.all (idxD m)
  | _, _, .nil => rfl
  | _, _, .cons r t => by rw [List.all_cons, List.all_cons, dx_idx r, dx_all t]
theorem dx_empty : ∀ {xs : List V} {ds : List PyData}, DxAll K H xs ds → xs.isEmpty = ds.isEmpty
  | _, _, .nil => rfl
  | _, _, .cons _ _ => rfl
theorem dx_worths {x : V} {d : PyData} (h : Dx K H x d) : worthsB H x = worthsD d := by
  cases h with
  | lst e t => simp only [worthsB, e, worthsD]
  | tup e t => simp only [worthsB, e, worthsD]; rw [dx_empty t, dx_all t]
  | dic e t => simp only [worthsB, e, worthsD]
  | _ => rfl
theorem DxAll.mem : ∀ {xs : List V} {ds : List PyData}, DxAll K H xs ds → ∀ {y : V}, y ∈ xs → ∃ d ∈ ds, Dx K H y d
  | _, _, .nil, y, h => by cases h
  | _, _, .cons r t, y, h => by
    rcases List.mem_cons.mp h with rfl | h
    · exact ⟨_, List.mem_cons_self, r⟩
    · obtain ⟨d, h1, h2⟩ := t.mem h
      exact ⟨d, List.mem_cons_of_mem _ h1, h2⟩
/-- lists and tuples at the top are not long -/
def WdD (d : PyData) : Prop := ∀ ds, d = .tuple ds ∨ d = .list ds → ds.length ≤ 1000
theorem dx_th1 {x : V} {d : PyData} (h : Dx K H x d) (w : WdD d) : Th K H 1 x := by
  refine ⟨dx_ty h, fun a xs e z => ?_⟩
  subst e
  cases h with
  | @lst _ ys ds e t =>
    have l := w ds (.inr rfl)
    rcases z with z | z
    · rw [e] at z; cases z
    · rw [e] at z; cases z; exact ⟨by rw [t.len]; omega, fun y hy => by obtain ⟨d, _, q⟩ := t.mem hy; exact dx_ty q⟩
  | @tup _ ys ds e t =>
    have l := w ds (.inl rfl)
    rcases z with z | z
    · rw [e] at z; cases z; exact ⟨by rw [t.len]; omega, fun y hy => by obtain ⟨d, _, q⟩ := t.mem hy; exact dx_ty q⟩
    · rw [e] at z; cases z
  | dic e t => rcases z with z | z <;> (rw [e] at z; cases z)
end
/-! ascending worths -/
def ascB : List Int → Bool
  | a :: b :: r => decide (a < b) && ascB (b :: r)
  | _ => true
def stI (ws : List Int) (i : Nat) : Bool := decide (ws.getD i 0 < ws.getD (i + 1) 0)
theorem asc_range : ∀ ws : List Int, (List.range (ws.length - 1)).all (stI ws) = ascB ws
  | [] => rfl
  | [_] => rfl
  | a :: b :: r => by
    have ih := asc_range (b :: r)
    show (List.range (r.length + 1)).all (stI (a :: b :: r)) = (decide (a < b) && ascB (b :: r))
    rw [← ih, List.range_succ_eq_map, List.all_cons, List.all_map]
    rfl
theorem asc_iff : ∀ {ws : List Int}, ascB ws = true ↔ ws.Pairwise (· < ·)
  | [] => ⟨fun _ => .nil, fun _ => rfl⟩
  | [_] => ⟨fun _ => List.pairwise_singleton _ _, fun _ => rfl⟩
  | a :: b :: r => by
    have ih := asc_iff (ws := b :: r)
    show (decide (a < b) && ascB (b :: r)) = true ↔ _
    rw [Bool.and_eq_true, decide_eq_true_iff, ih]
    constructor
    · rintro ⟨h1, h2⟩
      refine List.pairwise_cons.mpr ⟨fun z hz => ?_, h2⟩
      rcases List.mem_cons.mp hz with rfl | hz
      · exact h1
      · have := (List.pairwise_cons.mp h2).1 z hz
        omega
    · intro h
      obtain ⟨h1, h2⟩ := List.pairwise_cons.mp h
      exact ⟨h1 b List.mem_cons_self, h2⟩
/-! patterns of any data -/
def intD : PyData → Int
  | .int i => i
  | _ => 0
def intsD : PyData → List Int
  | .tuple ds => ds.map intD
  | _ => []
def letD (d : PyData) : Bool := worthsD d && ascB (intsD d)
def patB (n : Int) : PyData → Bool
  | .dict kvs => kvs.all fun p => idxD n p.1 && letD p.2
  | _ => false
/-- a dict whose values are not long -/
def SzP (d : PyData) : Prop := ∀ kvs, d = .dict kvs → kvs.length ≤ 1000 ∧ (kvs.map (·.1)).Nodup ∧ ∀ p ∈ kvs, WdD p.2
section
variable {K : PySem.W.Frag} {H : Hp}
theorem idx_int {m : Int} {x : V} (h : idxB m x = true) : ∃ i, x = .int i ∧ 0 ≤ i ∧ i < m := by
  cases x with
  | int i =>
    have h : (decide (0 ≤ i) && decide (i < m)) = true := h
    rw [Bool.and_eq_true, decide_eq_true_iff, decide_eq_true_iff] at h
    exact ⟨i, rfl, h.1, h.2⟩
  | _ => cases h
theorem dx_int {m : Int} {x : V} {d : PyData} (q : Dx K H x d) (h : idxD m d = true) : x = .int (intD d) ∧ 0 ≤ intD d ∧ intD d < m := by
  rw [← dx_idx q] at h
  obtain ⟨i, rfl, a, b⟩ := idx_int h
  cases q
  exact ⟨rfl, a, b⟩
theorem dx_ints {m : Int} : ∀ {xs : List V} {ds : List PyData}, DxAll K H xs ds → ds.all (idxD m) = true → xs = ivs (ds.map intD) ∧ ∀ z ∈ ds.map intD, 0 ≤ z ∧ z < m
  | _, _, .nil, _ => ⟨rfl, fun z h => by cases h⟩
  | _, _, .cons r t, h => by
    rw [List.all_cons, Bool.and_eq_true] at h
    obtain ⟨e1, e2, e3⟩ := dx_int r h.1
    obtain ⟨a, b⟩ := dx_ints t h.2
    refine ⟨?_, fun z hz => ?_⟩
    · rw [e1, a]
      rfl
    · rcases List.mem_cons.mp hz with rfl | hz
      · exact ⟨e2, e3⟩
      · exact b z hz
/-- worths among data -/
theorem dx_let {x : V} {d : PyData} (q : Dx K H x d) (h : worthsD d = true) : ∃ a, x = .ref a ∧ H a = some (.tup (ivs (intsD d))) ∧ intsD d ≠ [] ∧ ∀ z ∈ intsD d, 0 ≤ z ∧ z < 8 := by
  cases q with
  | @tup a xs ds e t =>
    have h : (!ds.isEmpty && ds.all (idxD 8)) = true := h
    rw [Bool.and_eq_true] at h
    obtain ⟨e1, b⟩ := dx_ints t h.2
    refine ⟨a, rfl, by rw [e, e1]; rfl, fun z => ?_, b⟩
    cases ds with
    | nil => cases h.1
    | cons _ _ => cases z
  | _ => cases h
theorem dx_dict_or {x : V} {d : PyData} (h : Dx K H x d) : (∃ a rows kvs, x = .ref a ∧ H a = some (.dK rows) ∧ d = .dict kvs ∧ DxKv K H rows kvs) ∨ (∃ n, Ty K H x n ∧ isB n "dict" = false ∧ ∀ kvs, d ≠ .dict kvs) := by
  cases h with
  | non => exact .inr ⟨_, ⟨.non, by decide, fun _ _ _ e => by cases e⟩, by decide, fun _ e => by cases e⟩
  | bl b => exact .inr ⟨_, ⟨.bl b, by decide, fun _ _ _ e => by cases e⟩, by decide, fun _ e => by cases e⟩
  | int i => exact .inr ⟨_, ⟨.int i, by decide, fun _ _ _ e => by cases e⟩, by decide, fun _ e => by cases e⟩
  | str z => exact .inr ⟨_, ⟨.str z, by decide, fun _ _ _ e => by cases e⟩, by decide, fun _ e => by cases e⟩
  | lst e t => exact .inr ⟨_, ⟨.lst e, by decide, fun b o u z q => by cases z; rw [e] at q; cases q⟩, by decide, fun _ e => by cases e⟩
  | tup e t => exact .inr ⟨_, ⟨.tup e, by decide, fun b o u z q => by cases z; rw [e] at q; cases q⟩, by decide, fun _ e => by cases e⟩
  | dic e t => exact .inl ⟨_, _, _, rfl, e, rfl, t⟩
theorem ty_d {a : Addr} {rows : List (L2.Key × V)} (h : H a = some (.dK rows)) : Ty K H (.ref a) "dict" := ⟨.dK h, by decide, fun b o u e z => by cases e; rw [h] at z; cases z⟩
theorem isB_dd : isB "dict" "dict" = true := by decide
theorem DxKv.at : ∀ {rows : List (L2.Key × V)} {kvs : List (PyData × PyData)}, DxKv K H rows kvs → ∀ {i : Nat} {k : L2.Key} {v : V}, rows[i]? = some (k, v) → ∃ d, kvs[i]? = some (keyD k, d) ∧ Dx K H v d
  | _, _, .nil, i, k, v, h => by simp at h
  | _, _, .cons r t, 0, k, v, h => by cases h; exact ⟨_, rfl, r⟩
  | _, _, .cons r t, i + 1, k, v, h => t.at (i := i) h
theorem DxKv.keys : ∀ {rows : List (L2.Key × V)} {kvs : List (PyData × PyData)}, DxKv K H rows kvs → kvs.map (·.1) = (rows.map (·.1)).map keyD
  | _, _, .nil => rfl
  | _, _, .cons _ t => by rw [List.map_cons, List.map_cons, List.map_cons, t.keys]
theorem DxKv.nd {rows : List (L2.Key × V)} {kvs : List (PyData × PyData)} (h : DxKv K H rows kvs) (n : (kvs.map (·.1)).Nodup) : (rows.map (·.1)).Nodup := by
  rw [h.keys] at n
  exact (List.pairwise_map.mp n).imp fun {a b} z e => z (by rw [e])
theorem key_idx (k : L2.Key) (m : Int) : idxB m (kV k) = idxD m (keyD k) := by cases k <;> rfl
theorem key_ty (k : L2.Key) : ∃ n, Ty K H (kV k) n := by
  cases k with
  | inl i => exact ⟨_, .int i, by decide, fun _ _ _ e => by cases e⟩
  | inr x => exact ⟨_, .str x, by decide, fun _ _ _ e => by cases e⟩
theorem valV_at : ∀ {rows : List (L2.Key × V)} {i : Nat} {k : L2.Key} {v : V}, (rows.map (·.1)).Nodup → rows[i]? = some (k, v) → valV rows k = some v
  | [], i, k, v, _, h => by simp at h
  | p :: r, 0, k, v, _, h => by
    cases h
    exact valV_pos rfl
  | p :: r, i + 1, k, v, n, h => by
    rw [List.map_cons] at n
    obtain ⟨n1, n2⟩ := List.nodup_cons.mp n
    have hm : k ∈ r.map (·.1) := by
      have := List.mem_of_getElem? (l := r) (i := i) (by simpa using h)
      exact List.mem_map.mpr ⟨_, this, rfl⟩
    rw [valV_neg (fun e => n1 (by rw [e]; exact hm))]
    exact valV_at n2 (by simpa using h)
end
/-! locked while it is walked -/
theorem lock_same {H H' : Hp} {d : Addr} {u : HO} {od : Obj} (h : H d = some u) (s : Same (upd H d (.frz od u)) H') : Same H (upd H' d u) := fun a o e => by
  by_cases c : a = d
  · subst c
    rw [upd_same]
    rw [h] at e
    exact e
  · rw [upd_ne c]
    exact s a o (by rw [upd_ne c]; exact e)
theorem lock_at {H H' : Hp} {d : Addr} {u : HO} {od : Obj} (s : Same (upd H d (.frz od u)) H') : H' d = some (.frz od u) := s _ _ upd_same
theorem lock_get {H : Hp} {d a : Addr} {u o : HO} {od : Obj} (h : H d = some u) (e : H a = some o) (n : o ≠ u) : upd H d (.frz od u) a = some o := by
  rw [upd_ne (fun z => n (by rw [z, h] at e; exact (Option.some.inj e).symm))]
  exact e
/-- the heap without the locked dict -/
theorem lock_hd {H : Hp} {d : Addr} {x : HO} : Same (hd d H) (upd H d x) := fun a o e => by
  by_cases c : a = d
  · rw [c, show hd d H d = none from if_pos rfl] at e
    cases e
  · rw [hd_ne c] at e
    rw [upd_ne c]
    exact e
mutual
theorem Dx.fn {K : PySem.W.Frag} {H : Hp} : ∀ {v : V} {d : PyData}, Dx K H v d → ∀ {d' : PyData}, Dx K H v d' → d = d'
  | _, _, .non, _, h => by cases h; rfl
  | _, _, .bl b, _, h => by cases h; rfl
  | _, _, .int i, _, h => by cases h; rfl
  | _, _, .str x, _, h => by cases h; rfl
  | _, _, .lst e t, _, h => by
    cases h with
    | lst e' t' => rw [e] at e'; cases e'; rw [DxAll.fn t t']
    | tup e' t' => rw [e] at e'; cases e'
    | dic e' t' => rw [e] at e'; cases e'
  | _, _, .tup e t, _, h => by
    cases h with
    | lst e' t' => rw [e] at e'; cases e'
    | tup e' t' => rw [e] at e'; cases e'; rw [DxAll.fn t t']
    | dic e' t' => rw [e] at e'; cases e'
  | _, _, .dic e t, _, h => by
    cases h with
    | lst e' t' => rw [e] at e'; cases e'
    | tup e' t' => rw [e] at e'; cases e'
    | dic e' t' => rw [e] at e'; cases e'; rw [DxKv.fn t t']
theorem DxAll.fn {K : PySem.W.Frag} {H : Hp} : ∀ {v : List V} {d : List PyData}, DxAll K H v d → ∀ {d' : List PyData}, DxAll K H v d' → d = d'
  | _, _, .nil, _, h => by cases h; rfl
  | _, _, .cons r t, _, h => by
    cases h with
    | cons r' t' => rw [Dx.fn r r', DxAll.fn t t']
theorem DxKv.fn {K : PySem.W.Frag} {H : Hp} : ∀ {v : List (L2.Key × V)} {d : List (PyData × PyData)}, DxKv K H v d → ∀ {d' : List (PyData × PyData)}, DxKv K H v d' → d = d'
  | _, _, .nil, _, h => by cases h; rfl
  | _, _, .cons r t, _, h => by
    cases h with
    | cons r' t' => rw [Dx.fn r r', DxKv.fn t t']
end
/-- what is less deep than what stands at a is told without a -/
theorem dp_l {ds : List PyData} : (PyData.list ds).depth = PyData.depthAll ds + 1 := by simp only [PyData.depth]
theorem dp_t {ds : List PyData} : (PyData.tuple ds).depth = PyData.depthAll ds + 1 := by simp only [PyData.depth]
theorem dp_d {kvs : List (PyData × PyData)} : (PyData.dict kvs).depth = PyData.depthKv kvs + 1 := by simp only [PyData.depth]
mutual
theorem Dx.off {K : PySem.W.Frag} {H : Hp} {a : Addr} {D : PyData} (h : Dx K H (.ref a) D) : ∀ {v : V} {d : PyData}, Dx K H v d → d.depth < D.depth → Dx K (hd a H) v d
  | _, _, .non, _ => .non
  | _, _, .bl b, _ => .bl b
  | _, _, .int i, _ => .int i
  | _, _, .str x, _ => .str x
  | _, _, .lst (a := b) e t, l => by
    have ne : b ≠ a := fun z => by
      subst z
      rw [Dx.fn h (.lst e t)] at l
      omega
    exact .lst ((hd_ne ne).trans e) (DxAll.off h t (by rw [dp_l] at l; omega))
  | _, _, .tup (a := b) e t, l => by
    have ne : b ≠ a := fun z => by
      subst z
      rw [Dx.fn h (.tup e t)] at l
      omega
    exact .tup ((hd_ne ne).trans e) (DxAll.off h t (by rw [dp_t] at l; omega))
  | _, _, .dic (a := b) e t, l => by
    have ne : b ≠ a := fun z => by
      subst z
      rw [Dx.fn h (.dic e t)] at l
      omega
    exact .dic ((hd_ne ne).trans e) (DxKv.off h t (by rw [dp_d] at l; omega))
theorem DxAll.off {K : PySem.W.Frag} {H : Hp} {a : Addr} {D : PyData} (h : Dx K H (.ref a) D) : ∀ {v : List V} {d : List PyData}, DxAll K H v d → PyData.depthAll d < D.depth → DxAll K (hd a H) v d
  | _, _, .nil, _ => .nil
  | _, _, .cons r t, l => .cons (Dx.off h r (by simp only [PyData.depthAll] at l; omega)) (DxAll.off h t (by simp only [PyData.depthAll] at l; omega))
theorem DxKv.off {K : PySem.W.Frag} {H : Hp} {a : Addr} {D : PyData} (h : Dx K H (.ref a) D) : ∀ {v : List (L2.Key × V)} {d : List (PyData × PyData)}, DxKv K H v d → PyData.depthKv d < D.depth → DxKv K (hd a H) v d
  | _, _, .nil, _ => .nil
  | _, _, .cons r t, l => .cons (Dx.off h r (by simp only [PyData.depthKv] at l; omega)) (DxKv.off h t (by simp only [PyData.depthKv] at l; omega))
end
/-- the values of a dict, told while it is locked -/
theorem DxKv.lock {K : PySem.W.Frag} {H : Hp} {a : Addr} {rows : List (L2.Key × V)} {kvs : List (PyData × PyData)} {x : HO} (e : H a = some (.dK rows)) (t : DxKv K H rows kvs) : DxKv K (upd H a x) rows kvs :=
  DxKv.same lock_hd (DxKv.off (.dic e t) t (by rw [dp_d]; omega))
/-! patterns that are right -/
abbrev Ptn := List (Nat × List Int)
def RowV (H : Hp) (r : L2.Key × V) (p : Nat × List Int) : Prop := r.1 = .inl ((p.1 : Nat) : Int) ∧ ∃ t, r.2 = .ref t ∧ H t = some (.tup (ivs p.2))
structure PatV (H : Hp) (a : Addr) (ps : Ptn) : Prop where
  ex : ∃ rows, H a = some (.dK rows) ∧ Paired (RowV H) rows ps
theorem rows_kp {p : Addr} {H H' : Hp} {rows : List (L2.Key × V)} {ps : Ptn} (k : Kp p H H') (h : Paired (RowV H) rows ps) : Paired (RowV H') rows ps := L2.Paired.mapP h fun _ _ ⟨e, t, e2, z⟩ => ⟨e, t, e2, k.tup z⟩
theorem rows_same {H H' : Hp} {rows : List (L2.Key × V)} {ps : Ptn} (s : Same H H') (h : Paired (RowV H) rows ps) : Paired (RowV H') rows ps := rows_kp (p := 0) (Kp.same s) h
theorem PatV.kp {p a : Addr} {H H' : Hp} {ps : Ptn} (h : PatV H a ps) (k : Kp p H H') : PatV H' a ps := by
  obtain ⟨rows, h1, h2⟩ := h.ex
  exact ⟨rows, k _ _ (.inr fun l e => by cases e) h1, rows_kp k h2⟩
theorem PatV.same {a : Addr} {H H' : Hp} {ps : Ptn} (h : PatV H a ps) (s : Same H H') : PatV H' a ps := h.kp (p := 0) (Kp.same s)
structure OkPt (n : Nat) (ps : Ptn) : Prop where
  nd : (ps.map (·.1)).Nodup
  kb : ∀ p ∈ ps, p.1 < n
  ne : ∀ p ∈ ps, p.2 ≠ []
  asc : ∀ p ∈ ps, p.2.Pairwise (· < ·)
  rg : ∀ p ∈ ps, ∀ z ∈ p.2, 0 ≤ z ∧ z < 8
def patD (ps : Ptn) : PyData := .dict (ps.map fun p => (.int ((p.1 : Nat) : Int), .tuple (dvs p.2)))
theorem dx_pat {K : PySem.W.Frag} {H : Hp} {a : Addr} {ps : Ptn} (h : PatV H a ps) : Dx K H (.ref a) (patD ps) := by
  obtain ⟨rows, h1, h2⟩ := h.ex
  refine .dic h1 ?_
  clear h1 h
  induction h2 with
  | nil => exact .nil
  | @cons r p rs ps hr t ih =>
    obtain ⟨k, v⟩ := r
    obtain ⟨e1, t, e2, e3⟩ := hr
    have e1' : k = .inl ((p.1 : Nat) : Int) := e1
    have e2' : v = .ref t := e2
    subst e1' e2'
    exact .cons (k := .inl ((p.1 : Nat) : Int)) (Dx.of (.tup e3 (dq_ints p.2))) ih
theorem sub_lenI : ∀ {l1 l2 : List Int}, l1.Nodup → (∀ x ∈ l1, x ∈ l2) → l1.length ≤ l2.length
  | [], _, _, _ => Nat.zero_le _
  | x :: l1, l2, n, s => by
    obtain ⟨n1, n2⟩ := List.nodup_cons.mp n
    have h := sub_lenI (l2 := l2.erase x) n2 fun y hy => (List.mem_erase_of_ne (fun (e : y = x) => n1 (by rw [← e]; exact hy))).mpr (s y (List.mem_cons_of_mem _ hy))
    have hx := s x List.mem_cons_self
    rw [List.length_erase_of_mem hx] at h
    have := List.length_pos_of_mem hx
    rw [List.length_cons]
    omega
theorem asc_len {ws : List Int} (h : ws.Pairwise (· < ·)) (b : ∀ z ∈ ws, 0 ≤ z ∧ z < 8) : ws.length ≤ 8 := by
  have nd : ws.Nodup := h.imp fun {a b} z => by omega
  have : ws.length ≤ ([0, 1, 2, 3, 4, 5, 6, 7] : List Int).length := sub_lenI nd fun z hz => by
    have := b z hz
    simp only [List.mem_cons, List.not_mem_nil, or_false]
    omega
  exact this
theorem pat_sz {n : Nat} {ps : Ptn} (o : OkPt n ps) (hl : ps.length ≤ 1000) : SzP (patD ps) := fun kvs e => by
  cases e
  refine ⟨by rw [List.length_map]; exact hl, ?_, fun p hp => ?_⟩
  · rw [List.map_map]
    exact List.pairwise_map.mpr ((List.pairwise_map.mp o.nd).imp fun {a b} z e => z (by injection e; omega))
  · obtain ⟨q, hq, rfl⟩ := List.mem_map.mp hp
    intro ds e
    have := asc_len (o.asc q hq) (o.rg q hq)
    rcases e with e | e
    · cases e
      unfold dvs
      rw [List.length_map]
      omega
    · cases e
theorem pat_ok {n : Nat} {ps : Ptn} (o : OkPt n ps) : patB n (patD ps) = true := by
  show (ps.map fun p => (PyData.int ((p.1 : Nat) : Int), PyData.tuple (dvs p.2))).all _ = true
  rw [List.all_map, List.all_eq_true]
  intro p hp
  show (idxD n (.int ((p.1 : Nat) : Int)) && letD (.tuple (dvs p.2))) = true
  have kb := o.kb p hp
  have e1 : idxD (n : Int) (.int ((p.1 : Nat) : Int)) = true := by
    show (decide ((0 : Int) ≤ (p.1 : Int)) && decide ((p.1 : Int) < (n : Int))) = true
    rw [decide_eq_true (by omega), decide_eq_true (by omega)]
    rfl
  have rg := o.rg p hp
  have e2 : worthsD (.tuple (dvs p.2)) = true := by
    show (!(dvs p.2).isEmpty && (dvs p.2).all (idxD 8)) = true
    rw [Bool.and_eq_true, List.all_eq_true]
    refine ⟨?_, fun d hd => ?_⟩
    · have := o.ne p hp
      cases q : p.2 with
      | nil => exact absurd q this
      | cons _ _ => rfl
    · obtain ⟨z, hz, rfl⟩ := dvs_mem hd
      have := rg z hz
      show (decide (0 ≤ z) && decide (z < 8)) = true
      rw [decide_eq_true (by omega), decide_eq_true (by omega)]
      rfl
  have e3 : intsD (.tuple (dvs p.2)) = p.2 := by
    show (p.2.map PyData.int).map intD = p.2
    rw [List.map_map]
    exact List.map_id _
  unfold letD
  rw [e1, e2, e3, asc_iff.mpr (o.asc p hp)]
  rfl
/-- a content agrees with a pattern -/
def agB (ps : Ptn) (c : List Int) : Bool := ps.all fun p => p.2.contains (c.getD p.1 0)
/-! the texts of dicts -/
theorem Bd.dic {b n k : Nat} {kvs : List (PyData × PyData)} (h : ∀ p ∈ kvs, flatD p.1 = true ∧ Bd b n p.2) (hl : kvs.length ≤ k) : Bd (k * (b + 49) + 3) (n + 2) (.dict kvs) := by
  have tx : ((PyData.shownKv kvs).map (·.length)).sum ≤ (b + 47) * kvs.length ∧ (PyData.shownKv kvs).length = kvs.length ∧ PyData.showableKv kvs = true ∧ PyData.depthKv kvs ≤ n + 1 := by
    clear hl
    induction kvs with
    | nil => exact ⟨Nat.zero_le _, rfl, rfl, Nat.zero_le _⟩
    | cons p r ih =>
      obtain ⟨k, v⟩ := p
      obtain ⟨i1, i2, i3, i4⟩ := ih fun q hq => h q (List.mem_cons_of_mem _ hq)
      obtain ⟨f, hv⟩ := h (k, v) List.mem_cons_self
      obtain ⟨k1, k2, k3⟩ := flat_len f
      have v1 := hv.tx
      have v3 := hv.dp
      refine ⟨?_, ?_, ?_, ?_⟩
      · simp only [PyData.shownKv, List.map_cons, List.sum_cons, List.length_cons, Nat.mul_succ]
        have e : (k.shown ++ ": " ++ v.shown).length = k.shown.length + 2 + v.shown.length := by
          rw [strLen_append, strLen_append]
          rfl
        rw [e]
        dsimp only at k1 v1
        omega
      · simp only [PyData.shownKv, List.length_cons, i2]
      · simp only [PyData.showableKv, i3, Bool.and_true, Bool.and_eq_true]
        exact ⟨k2, hv.sh⟩
      · simp only [PyData.depthKv]
        dsimp only at v3 k3
        omega
  obtain ⟨t1, t2, t3, t4⟩ := tx
  have e : kvs.length * (b + 49) ≤ k * (b + 49) := Nat.mul_le_mul_right _ hl
  have e2 : kvs.length * (b + 49) = (b + 47) * kvs.length + 2 * kvs.length := by rw [Nat.mul_comm, ← Nat.add_mul]
  refine ⟨?_, ?_, ?_⟩
  · simp only [PyData.shown]
    have := dictText_len_le (PyData.shownKv kvs)
    rw [t2] at this
    omega
  · simp only [PyData.showable]
    exact t3
  · simp only [PyData.depth]
    omega
theorem bd_pat {n : Nat} {ps : Ptn} (o : OkPt n ps) (hn : n ≤ 24) (hl : ps.length ≤ 24) : Bd 31000 4 (patD ps) := by
  refine (Bd.dic (b := 1200) (n := 2) (k := 24) (fun p hp => ?_) (by rw [List.length_map]; exact hl)).mono (by decide) (by decide)
  obtain ⟨q, hq, rfl⟩ := List.mem_map.mp hp
  have kb := o.kb q hq
  exact ⟨flat_place ⟨by omega, by omega⟩, bd_cells (by have := asc_len (o.asc q hq) (o.rg q hq); omega) (o.rg q hq)⟩
theorem all_mapP {α : Type} (f : α → Bool) (l : List α) : (l.map f).all id = l.all f := by simp
theorem ivs_at {c : List Int} {i : Nat} (h : i < c.length) : (ivs c)[i]? = some (.int (c.getD i 0)) := by
  unfold ivs
  rw [List.getElem?_map, List.getElem?_eq_getElem h, List.getD_eq_getElem?_getD, List.getElem?_eq_getElem h]
  rfl
/-- what a pattern's rows hold while it is locked -/
theorem row_facts {H : Hp} {a : Addr} {rows : List (L2.Key × V)} {ps : Ptn} {od : Obj} {n : Nat} (ha : H a = some (.dK rows)) (hp : Paired (RowV H) rows ps) (o : OkPt n ps) : (rows.map (·.1)).Nodup ∧ ∀ (i : Nat) (k : L2.Key) (v : V), rows[i]? = some (k, v) → ∃ (p : Nat × List Int) (t : Addr), ps[i]? = some p ∧ k = .inl ((p.1 : Nat) : Int) ∧ v = .ref t ∧ upd H a (.frz od (.dK rows)) t = some (.tup (ivs p.2)) := by
  refine ⟨?_, fun i k v h => ?_⟩
  · have e : rows.map (·.1) = ps.map fun p => Sum.inl ((p.1 : Nat) : Int) := by
      clear o ha
      induction hp with
      | nil => rfl
      | cons r t ih => rw [List.map_cons, List.map_cons, ih, r.1]
    rw [e]
    exact List.pairwise_map.mpr ((List.pairwise_map.mp o.nd).imp fun {a b} z e => z (by injection e; omega))
  · obtain ⟨p, h1, e1, t, e2, h2⟩ := paired_get hp h
    exact ⟨p, t, h1, e1, e2, lock_get ha h2 (fun z => by cases z)⟩
/-! dicts that are written: their keys -/
theorem putK_keys {rows : List (L2.Key × V)} {ks : List Int} (h : rows.map (·.1) = ks.map Sum.inl) (z : Int) (v : V) : ∃ ks' : List Int, (putK rows (.inl z) v).map (·.1) = ks'.map Sum.inl ∧ (ks.Nodup → ks'.Nodup) ∧ (∀ x, x ∈ ks' ↔ x ∈ ks ∨ x = z) ∧ ks'.length ≤ ks.length + 1 := by
  unfold putK
  by_cases c : (rows.any fun kv => decide (kv.1 = .inl z)) = true
  · rw [if_pos c]
    have hz : z ∈ ks := by
      obtain ⟨p, hp, e⟩ := List.any_eq_true.mp c
      have e' := of_decide_eq_true e
      have m : (Sum.inl z : L2.Key) ∈ rows.map (·.1) := List.mem_map.mpr ⟨p, hp, e'⟩
      rw [h] at m
      obtain ⟨y, hy, e2⟩ := List.mem_map.mp m
      injection e2 with e2
      rw [← e2]
      exact hy
    refine ⟨ks, ?_, id, fun x => ⟨.inl, fun y => ?_⟩, Nat.le_succ _⟩
    · rw [← h, List.map_map]
      refine List.map_congr_left fun p _ => ?_
      show (if p.1 = .inl z then (p.1, v) else p).1 = p.1
      split <;> rfl
    · rcases y with y | rfl
      · exact y
      · exact hz
  · rw [if_neg c]
    have hz : z ∉ ks := fun hz => c (List.any_eq_true.mpr (by
      have m : (Sum.inl z : L2.Key) ∈ rows.map (·.1) := by rw [h]; exact List.mem_map.mpr ⟨z, hz, rfl⟩
      obtain ⟨p, hp, e⟩ := List.mem_map.mp m
      exact ⟨p, hp, decide_eq_true e⟩))
    refine ⟨ks ++ [z], ?_, fun n => ?_, fun x => ?_, by rw [List.length_append]; exact Nat.le_refl _⟩
    · rw [List.map_append, List.map_append, h]
      rfl
    · exact List.nodup_append.mpr ⟨n, by simp, fun x hx y hy e => by rw [List.mem_singleton.mp hy] at e; exact hz (e ▸ hx)⟩
    · rw [List.mem_append, List.mem_singleton]
theorem putK_snoc {rows : List (L2.Key × V)} {k : L2.Key} {v : V} (h : k ∉ rows.map (·.1)) : putK rows k v = rows ++ [(k, v)] := by
  unfold putK
  rw [if_neg]
  intro c
  obtain ⟨p, hp, e⟩ := List.any_eq_true.mp c
  exact h (List.mem_map.mpr ⟨p, hp, of_decide_eq_true e⟩)
/-- a dict of numbers, whatever they hold -/
def KeyV (H : Hp) (a : Addr) (ks : List Int) : Prop := ∃ rows : List (L2.Key × V), H a = some (.dK rows) ∧ rows.map (·.1) = ks.map Sum.inl
theorem KeyV.kp {p a : Addr} {H H' : Hp} {ks : List Int} (h : KeyV H a ks) (k : Kp p H H') : KeyV H' a ks := by
  obtain ⟨rows, h1, h2⟩ := h
  exact ⟨rows, k _ _ (.inr fun l e => by cases e) h1, h2⟩
theorem rows_upd {H : Hp} {a : Addr} {o u : HO} {rows : List (L2.Key × V)} {ps : Ptn} (e : H a = some u) (n : ∀ l, u ≠ .tup l) (h : Paired (RowV H) rows ps) : Paired (RowV (upd H a o)) rows ps := L2.Paired.mapP h fun _ _ ⟨e1, t, e2, z⟩ => ⟨e1, t, e2, by
  rw [upd_ne (fun q => by rw [q, e] at z; exact n _ (Option.some.inj z))]
  exact z⟩
theorem rows_keys {H : Hp} {rows : List (L2.Key × V)} {ps : Ptn} (h : Paired (RowV H) rows ps) : rows.map (·.1) = ps.map fun p => (Sum.inl ((p.1 : Nat) : Int) : L2.Key) := by
  induction h with
  | nil => rfl
  | cons r t ih => rw [List.map_cons, List.map_cons, ih, r.1]
end Af

set_option Elab.async false
set_option linter.all false
set_option maxRecDepth 100000
namespace Af
open PySem L2
theorem op_inK {X : Cx} {K : PySem.W.Frag} (hK : X.K = K) : OpR X (compareOp .In) (rIn K false) := by
  subst hK
  exact op_in_seq
theorem op_notInK {X : Cx} {K : PySem.W.Frag} (hK : X.K = K) : OpR X (compareOp .NotIn) (rIn K true) := by
  subst hK
  exact op_notIn_seq
theorem in_ivs (z : Int) : ∀ cs : List Int, inV (.int z) (ivs cs) = cs.contains z
  | [] => rfl
  | c :: cs => by
    show (eqV (.int c) (.int z) || inV (.int z) (ivs cs)) = _
    rw [in_ivs z cs, List.contains_cons]
    congr 1
    show (c == z) = (z == c)
    exact BEq.comm
theorem flat_ivs (cs : List Int) : (ivs cs).all flatV = true := List.all_eq_true.mpr fun x hx => by
  obtain ⟨z, _, rfl⟩ := List.mem_map.mp hx
  rfl
def nvs (ps : List Nat) : List V := ivs (ps.map fun p => ((p : Nat) : Int))
theorem nvs_len (ps : List Nat) : (nvs ps).length = ps.length := by
  unfold nvs ivs
  rw [List.length_map, List.length_map]
end Af

set_option Elab.async false
set_option linter.all false
set_option maxRecDepth 100000
set_option maxHeartbeats 4000000
namespace Af
open PySem L2
abbrev s_is_ascending : Stmt := top 8
abbrev N_is_ascending : List Str := ["things", "at"]
theorem sc_is_ascending : FnScope N_is_ascending ["things"] (defScope s_is_ascending) := ⟨rfl, rfl, rfl, by decide +kernel, rfl, by decide +kernel, by decide +kernel⟩

abbrev s_are_let : Stmt := top 15
abbrev N_are_let : List Str := ["thing"]
theorem sc_are_let : FnScope N_are_let ["thing"] (defScope s_are_let) := ⟨rfl, rfl, rfl, by decide +kernel, rfl, by decide +kernel, by decide +kernel⟩

abbrev s_is_pattern : Stmt := top 14
abbrev N_is_pattern : List Str := ["cells", "thing", "cell"]
theorem sc_is_pattern : FnScope N_is_pattern ["cells", "thing"] (defScope s_is_pattern) := ⟨rfl, rfl, rfl, by decide +kernel, rfl, by decide +kernel, by decide +kernel⟩

abbrev s_agrees : Stmt := top 17
abbrev N_agrees : List Str := ["pattern", "content", "cell"]
theorem sc_agrees : FnScope N_agrees ["pattern", "content"] (defScope s_agrees) := ⟨rfl, rfl, rfl, by decide +kernel, rfl, by decide +kernel, by decide +kernel⟩

abbrev s_l_is_met : Stmt := top 25
abbrev N_l_is_met : List Str := ["_law_pattern_here", "_law_content_here", "_law_one"]
theorem sc_l_is_met : FnScope N_l_is_met ["_law_pattern_here", "_law_content_here"] (defScope s_l_is_met) := ⟨rfl, rfl, rfl, by decide +kernel, rfl, by decide +kernel, by decide +kernel⟩

def sp_ascT : Sp := fun vs H Q _ => ∃ (a : Addr) (ws : List Int), vs = [.ref a] ∧ H a = some (.tup (ivs ws)) ∧ ws.length ≤ 1000 ∧ ∀ H', Same H H' → Q (.bl (ascB ws)) H'
def sp_let (K : PySem.W.Frag) : Sp := fun vs H Q _ => ∃ (v : V) (d : PyData), vs = [v] ∧ Dx K H v d ∧ WdD d ∧ ∀ H', Same H H' → Q (.bl (letD d)) H'
def sp_is_pattern (K : PySem.W.Frag) : Sp := fun vs H Q _ => ∃ (n : Int) (v : V) (d : PyData), vs = [.int n, v] ∧ Dx K H v d ∧ SzP d ∧ ∀ H', Same H H' → Q (.bl (patB n d)) H'
def sp_agrees : Sp := fun vs H Q _ => ∃ (a ca : Addr) (n : Nat) (ps : Ptn) (c : List Int), vs = [.ref a, .ref ca] ∧ PatV H a ps ∧ OkPt n ps ∧ ps.length ≤ 1000 ∧ H ca = some (.tup (ivs c)) ∧ n ≤ c.length ∧ ∀ H', Same H H' → Q (.bl (agB ps c)) H'
section
variable {P : Program} {w : World} {K : PySem.W.Frag} {mg : Str → Option Value} {base : Heap}
theorem ok_ascT {f : Addr} {fd : FuncData} (F : Fun K "is_ascending" "is_ascending" s_is_ascending f fd) (T : Txt mg) : FnOk P w K mg base CX0 1 f fd ["things"] sp_ascT := by
  refine F.ok sc_is_ascending (fun vs H Q E h => ?_) (fun cdv A outer s H vs Q E hr h => ?_)
  · obtain ⟨_, _, rfl, _⟩ := h
    rfl
  obtain ⟨a, ws, rfl, ha, wl, k⟩ := h
  refine ⟨_, (pss_one (ps_ret (pe_callB (cr_all rfl) (by rfl) T.all (by decide +kernel) (pa_cons (pe_lc (own := [("at", 1)]) (g := (gName 1)) (tt := tYes) rfl sc_is_ascending.nd (pi_range1 rfl T.range (pa_cons (pe_op op_sub (pe_callB call_len' (by rfl) T.len (by decide +kernel) (pa_cons (pv 0) pa_nil)) pe_int) pa_nil)) (blkOk_by (own := [("at", 1)]) (N := N_is_ascending) (sc := defScope s_is_ascending) (by decide +kernel)) (fun _ _ _ _ _ => pg_name (i := 1) sc_is_ascending.nd rfl (Or.inl rfl)) (fun _ _ _ _ _ => pts_nil) (fun _ _ _ _ _ => (pe_cmpR op_lt (pe_ix ix_seq' (pv 0) (pv 1) (fun _ _ => rfl)) (pe_ix ix_seq' (pv 0) (pe_op op_add (pv 1) pe_int) (fun _ _ => rfl)) (nomark _)))) pa_nil)))), ?_⟩
  refine ⟨_, rfl, a, _, rfl, .inr ha, _, _, rfl, rfl, _, rfl, by rw [ivs_len]; omega, by rw [ivs_len]; omega, fun D hD => lc_range (lo := 0) (fun i H' => Same H H' ∧ H' D = some (.lst (((List.range i).map (stI ws)).map V.bl))) ?_ ?_ ?_⟩
  · exact ⟨same_new hD, upd_same⟩
  · rintro i H' hi ⟨s1, h1⟩
    rw [ivs_len] at hi
    have i1 : i < ws.length := by omega
    have i2 : i + 1 < ws.length := by omega
    refine ⟨rfl, _, rfl, _, rfl, a, _, _, _, rfl, rfl, .inr (s1 _ _ ha), at_of (Int.zero_add _) (ivs_at i1), _, rfl, _, rfl, _, _, rfl, rfl, a, _, _, _, rfl, rfl, .inr (s1 _ _ ha), at_of (by omega) (ivs_at i2), _, _, rfl, rfl, ?_⟩
    refine ⟨_, h1, szl (by rw [List.length_map, List.length_map, List.length_range]; omega), same_mut s1 hD, ?_⟩
    rw [upd_same, List.range_succ, List.map_append, List.map_append]
    rfl
  · rintro H1 ⟨s1, h1⟩
    refine ⟨D, _, rfl, SqL.of h1, ?_⟩
    rw [all_mapP, ivs_len, show (((ws.length : Nat) : Int) - 1).toNat = ws.length - 1 by omega, asc_range]
    exact k H1 s1
theorem ok_let {f : Addr} {fd : FuncData} (F : Fun K "are_let" "are_let" s_are_let f fd) (T : Txt mg) (c_are_worths : Cal P w K mg base 3 "are_worths" ["thing"] (sp_are_worths K)) (c_is_ascending : Cal P w K mg base 1 "is_ascending" ["things"] sp_ascT) : FnOk P w K mg base CX0 4 f fd ["thing"] (sp_let K) := by
  refine F.ok sc_are_let (fun vs H Q E h => ?_) (fun cdv A outer s H vs Q E hr h => ?_)
  · obtain ⟨_, _, rfl, _⟩ := h
    rfl
  obtain ⟨v, d, rfl, dx, wd, k⟩ := h
  refine ⟨_, (pss_one (ps_ret (pe_and (pe_cal c_are_worths hr (pa_cons (pv 0) pa_nil)) (pe_one (pe_cal c_is_ascending hr (pa_cons (pv 0) pa_nil)))))), ?_⟩
  refine ⟨_, rfl, v, rfl, dx_th1 dx wd, fun H1 s1 => ?_⟩
  rw [dx_worths dx]
  refine ⟨_, rfl, ?_⟩
  unfold letD at k
  cases c : worthsD d with
  | false =>
    rw [c] at k
    exact k H1 s1
  | true =>
    rw [c, Bool.true_and] at k
    obtain ⟨a, rfl, ha, _, _⟩ := dx_let dx c
    have wl : (intsD d).length ≤ 1000 := by
      cases d with
      | tuple ds => show (ds.map intD).length ≤ 1000; rw [List.length_map]; exact wd ds (.inl rfl)
      | _ => exact Nat.zero_le _
    exact ⟨_, rfl, a, _, rfl, s1 _ _ ha, wl, fun H2 s2 => k H2 (s1.trans s2)⟩
theorem ok_is_pattern {f : Addr} {fd : FuncData} (F : Fun K "is_pattern" "is_pattern" s_is_pattern f fd) (T : Txt mg) (t_dict : mg "dict" = none) (c_is_index : Cal P w K mg base 2 "is_index" ["thing", "many"] (sp_is_index K)) (c_are_let : Cal P w K mg base 4 "are_let" ["thing"] (sp_let K)) : FnOk P w K mg base CX0 5 f fd ["cells", "thing"] (sp_is_pattern K) := by
  refine F.ok sc_is_pattern (fun vs H Q E h => ?_) (fun cdv A outer s H vs Q E hr h => ?_)
  · obtain ⟨_, _, _, rfl, _⟩ := h
    rfl
  obtain ⟨n, v, d, rfl, dx, wd, k⟩ := h
  refine ⟨_, (pss_cons (ps_if (pt_not (pt_val (pe_callB call_isi' (by rfl) T.isinstance (by decide +kernel) (pa_cons (pv 1) (pa_cons (pe_bltn (v := .ty "dict") (by rfl) t_dict (by decide +kernel) rfl) pa_nil)))))
      (pss_one (ps_ret pe_bl))
      pss_nil)
    (pss_one (ps_ret (pe_callB (cr_all rfl) (by rfl) T.all (by decide +kernel) (pa_cons (pe_lock (pe_lc (own := [("cell", 2)]) (g := (gName 2)) (tt := tYes) rfl sc_is_pattern.nd (pi_keys (pv 1)) (blkOk_by (own := [("cell", 2)]) (N := N_is_pattern) (sc := defScope s_is_pattern) (by decide +kernel)) (fun _ _ _ _ _ => pg_name (i := 2) sc_is_pattern.nd rfl (Or.inl rfl)) (fun _ _ _ _ _ => pts_nil) (fun _ _ _ _ _ => (pe_and (pe_cal c_is_index hr (pa_cons (pv 2) (pa_cons (pv 0) pa_nil))) (pe_one (pe_cal c_are_let hr (pa_cons (pe_dget hr.u1 (pv 1) (pv 2) (fun _ _ => rfl)) pa_nil))))))) pa_nil))))), ?_⟩
  rcases dx_dict_or dx with ⟨a, rows, kvs, rfl, ha, rfl, dr⟩ | ⟨tn, ty, no, nd⟩
  · obtain ⟨len, knd, small⟩ := wd kvs rfl
    have rnd := dr.nd knd
    have drL : ∀ od, DxKv K (upd H a (.frz od (.dK rows))) rows kvs := fun od => dr.lock ha
    have rl := dr.len
    refine ⟨_, rfl, _, "dict", "dict", rfl, ty_d ha, by decide, _, rfl, ?_⟩
    rw [isB_dd]
    refine iteF ⟨a, _, ha, True.intro, fun od => ?_⟩
    refine ⟨_, rfl, a, od, rfl, .inl ⟨rows, upd_same, fun D hD => lc_it (walk_keys (d := a) (o := od) (kvs := rows)) (fun i H' => Same (upd H a (.frz od (.dK rows))) H' ∧ H' D = some (.lst (((kvs.take i).map fun p => idxD n p.1 && letD p.2).map V.bl))) ?_ ?_ ?_ ?_⟩⟩
    · exact ⟨same_new hD, upd_same⟩
    · rintro i H' _ ⟨s1, _⟩
      exact s1 _ _ upd_same
    · rintro i x H' H1 hi ⟨s1, h1⟩ ⟨rfl, ky, v, hy, rfl⟩
      obtain ⟨dv, hdv, dq⟩ := (drL od).at hy
      have dq1 : Dx K H1 v dv := Dx.same s1 dq
      have fin : ∀ H2 b, Same H1 H2 → (idxD n (keyD ky) && letD dv) = b → ∃ acc, H2 D = some (.lst acc) ∧ acc.length < sizeLine ∧ Same (upd H a (.frz od (.dK rows))) (upd H2 D (.lst (acc ++ [V.bl b]))) ∧ (upd H2 D (.lst (acc ++ [V.bl b]))) D = some (.lst (((kvs.take (i + 1)).map fun p => idxD n p.1 && letD p.2).map V.bl)) := fun H2 b s2 e => by
        refine ⟨_, s2 _ _ h1, szl (by rw [List.length_map, List.length_map, List.length_take]; omega), same_mut (s1.trans s2) hD, ?_⟩
        rw [upd_same, List.take_add_one, hdv, List.map_append, List.map_append, ← e]
        rfl
      obtain ⟨tn, ty⟩ := key_ty (K := K) (H := H1) ky
      refine ⟨rfl, _, rfl, _, rfl, _, _, tn, rfl, ty, ?_⟩
      rw [key_idx]
      refine ⟨_, rfl, ?_⟩
      cases c : idxD n (keyD ky) with
      | false => exact fin _ _ (Same.refl _) (by rw [c]; rfl)
      | true =>
        refine ⟨_, rfl, _, rfl, a, v, rfl, .inl ⟨rows, ky, .inr ⟨od, s1 _ _ upd_same⟩, rfl, (valV_at rnd hy).symm⟩, v, dv, rfl, dq1, small _ (List.mem_of_getElem? hdv), fun H2 s2 => ?_⟩
        exact fin H2 _ s2 (by rw [c]; rfl)
    · rintro H1 ⟨s1, h1⟩
      rw [rl, List.take_length] at h1
      have S := lock_same ha s1
      have nDa : D ≠ a := fun z => by
        rw [z, upd_same] at hD
        cases hD
      have h2 : (upd H1 a (.dK rows)) D = some (.lst _) := (upd_ne nDa).trans h1
      refine ⟨s1 _ _ upd_same, D, _, rfl, SqL.of h2, ?_⟩
      rw [all_mapP]
      exact k _ S
  · refine ⟨_, rfl, v, tn, "dict", rfl, ty, by decide, _, rfl, ?_⟩
    rw [no]
    have e : patB n d = false := by
      cases d with
      | dict kvs => exact absurd rfl (nd kvs)
      | _ => rfl
    have kk := k H (Same.refl _)
    rw [e] at kk
    exact iteT kk
theorem ok_agrees {f : Addr} {fd : FuncData} (F : Fun K "agrees" "agrees" s_agrees f fd) (T : Txt mg) : FnOk P w K mg base CX0 1 f fd ["pattern", "content"] sp_agrees := by
  refine F.ok sc_agrees (fun vs H Q E h => ?_) (fun cdv A outer s H vs Q E hr h => ?_)
  · obtain ⟨_, _, _, _, _, rfl, _⟩ := h
    rfl
  obtain ⟨a, ca, n, ps, c, rfl, pvt, o, pl, hc, nc, k⟩ := h
  obtain ⟨rows, ha, hp⟩ := pvt.ex
  have rl := paired_len hp
  refine ⟨_, (pss_one (ps_ret (pe_callB (cr_all rfl) (by rfl) T.all (by decide +kernel) (pa_cons (pe_lock (pe_lc (own := [("cell", 2)]) (g := (gName 2)) (tt := tYes) rfl sc_agrees.nd (pi_keys (pv 0)) (blkOk_by (own := [("cell", 2)]) (N := N_agrees) (sc := defScope s_agrees) (by decide +kernel)) (fun _ _ _ _ _ => pg_name (i := 2) sc_agrees.nd rfl (Or.inl rfl)) (fun _ _ _ _ _ => pts_nil) (fun _ _ _ _ _ => (pe_cmpR (op_inK (K := K) rfl) (pe_ix ix_seq' (pv 1) (pv 2) (fun _ _ => rfl)) (pe_dget hr.u1 (pv 0) (pv 2) (fun _ _ => rfl)) (by rfl))))) pa_nil)))), ?_⟩
  refine ⟨a, _, ha, True.intro, fun od => ?_⟩
  obtain ⟨rnd, rf⟩ := row_facts (od := od) ha hp o
  refine ⟨_, rfl, a, od, rfl, .inl ⟨rows, upd_same, fun D hD => lc_it (walk_keys (d := a) (o := od) (kvs := rows)) (fun i H' => Same (upd H a (.frz od (.dK rows))) H' ∧ H' D = some (.lst (((ps.take i).map fun p => p.2.contains (c.getD p.1 0)).map V.bl))) ?_ ?_ ?_ ?_⟩⟩
  · exact ⟨same_new hD, upd_same⟩
  · rintro i H' _ ⟨s1, _⟩
    exact s1 _ _ upd_same
  · rintro i x H' H1 hi ⟨s1, h1⟩ ⟨rfl, ky, v, hy, rfl⟩
    obtain ⟨p, t, hpi, rfl, rfl, ht⟩ := rf i _ _ hy
    have kb := o.kb p (List.mem_of_getElem? hpi)
    have hc1 : H1 ca = some (.tup (ivs c)) := s1 _ _ (lock_get ha hc (fun z => by cases z))
    refine ⟨rfl, _, rfl, _, rfl, ca, _, _, _, rfl, rfl, .inr hc1, atI_nat (ivs_at (show p.1 < c.length by omega)), _, rfl, _, rfl, a, .ref t, rfl, .inl ⟨rows, .inl ((p.1 : Nat) : Int), .inr ⟨od, s1 _ _ upd_same⟩, rfl, (valV_at rnd hy).symm⟩, ?_⟩
    refine ⟨t, _, rfl, .inr (SqT.of (s1 _ _ ht)), rfl, flat_ivs _, _, h1, szl (by rw [List.length_map, List.length_map, List.length_take]; omega), same_mut s1 hD, ?_⟩
    rw [upd_same, List.take_add_one, hpi, List.map_append, List.map_append, in_ivs]
    rfl
  · rintro H1 ⟨s1, h1⟩
    rw [rl, List.take_length] at h1
    have S := lock_same ha s1
    have nDa : D ≠ a := fun z => by
      rw [z, upd_same] at hD
      cases hD
    have h2 : (upd H1 a (.dK rows)) D = some (.lst _) := (upd_ne nDa).trans h1
    refine ⟨s1 _ _ upd_same, D, _, rfl, SqL.of h2, ?_⟩
    rw [all_mapP]
    exact k _ S
theorem ok_is_met {f : Addr} {fd : FuncData} (F : Fun K "_law_is_met" "_law_is_met" s_l_is_met f fd) (T : Txt mg) : FnOk P w K mg base CX0 1 f fd ["_law_pattern_here", "_law_content_here"] sp_agrees := by
  refine F.ok sc_l_is_met (fun vs H Q E h => ?_) (fun cdv A outer s H vs Q E hr h => ?_)
  · obtain ⟨_, _, _, _, _, rfl, _⟩ := h
    rfl
  obtain ⟨a, ca, n, ps, c, rfl, pvt, o, pl, hc, nc, k⟩ := h
  obtain ⟨rows, ha, hp⟩ := pvt.ex
  have rl := paired_len hp
  refine ⟨_, (pss_one (ps_ret (pe_callB (cr_all rfl) (by rfl) T.all (by decide +kernel) (pa_cons (pe_lock (pe_lc (own := [("_law_one", 2)]) (g := (gName 2)) (tt := tYes) rfl sc_l_is_met.nd (pi_keys (pv 0)) (blkOk_by (own := [("_law_one", 2)]) (N := N_l_is_met) (sc := defScope s_l_is_met) (by decide +kernel)) (fun _ _ _ _ _ => pg_name (i := 2) sc_l_is_met.nd rfl (Or.inl rfl)) (fun _ _ _ _ _ => pts_nil) (fun _ _ _ _ _ => (pe_cmpR (op_inK (K := K) rfl) (pe_ix ix_seq' (pv 1) (pv 2) (fun _ _ => rfl)) (pe_dget hr.u1 (pv 0) (pv 2) (fun _ _ => rfl)) (by rfl))))) pa_nil)))), ?_⟩
  refine ⟨a, _, ha, True.intro, fun od => ?_⟩
  obtain ⟨rnd, rf⟩ := row_facts (od := od) ha hp o
  refine ⟨_, rfl, a, od, rfl, .inl ⟨rows, upd_same, fun D hD => lc_it (walk_keys (d := a) (o := od) (kvs := rows)) (fun i H' => Same (upd H a (.frz od (.dK rows))) H' ∧ H' D = some (.lst (((ps.take i).map fun p => p.2.contains (c.getD p.1 0)).map V.bl))) ?_ ?_ ?_ ?_⟩⟩
  · exact ⟨same_new hD, upd_same⟩
  · rintro i H' _ ⟨s1, _⟩
    exact s1 _ _ upd_same
  · rintro i x H' H1 hi ⟨s1, h1⟩ ⟨rfl, ky, v, hy, rfl⟩
    obtain ⟨p, t, hpi, rfl, rfl, ht⟩ := rf i _ _ hy
    have kb := o.kb p (List.mem_of_getElem? hpi)
    have hc1 : H1 ca = some (.tup (ivs c)) := s1 _ _ (lock_get ha hc (fun z => by cases z))
    refine ⟨rfl, _, rfl, _, rfl, ca, _, _, _, rfl, rfl, .inr hc1, atI_nat (ivs_at (show p.1 < c.length by omega)), _, rfl, _, rfl, a, .ref t, rfl, .inl ⟨rows, .inl ((p.1 : Nat) : Int), .inr ⟨od, s1 _ _ upd_same⟩, rfl, (valV_at rnd hy).symm⟩, ?_⟩
    refine ⟨t, _, rfl, .inr (SqT.of (s1 _ _ ht)), rfl, flat_ivs _, _, h1, szl (by rw [List.length_map, List.length_map, List.length_take]; omega), same_mut s1 hD, ?_⟩
    rw [upd_same, List.take_add_one, hpi, List.map_append, List.map_append, in_ivs]
    rfl
  · rintro H1 ⟨s1, h1⟩
    rw [rl, List.take_length] at h1
    have S := lock_same ha s1
    have nDa : D ≠ a := fun z => by
      rw [z, upd_same] at hD
      cases hD
    have h2 : (upd H1 a (.dK rows)) D = some (.lst _) := (upd_ne nDa).trans h1
    refine ⟨s1 _ _ upd_same, D, _, rfl, SqL.of h2, ?_⟩
    rw [all_mapP]
    exact k _ S
end
end Af

set_option Elab.async false
set_option linter.all false
set_option maxRecDepth 100000
set_option maxHeartbeats 4000000
namespace Af
open PySem L2
abbrev s_l_some : Stmt := top 24
abbrev N_l_some : List Str := ["_law_pen_here", "_law_pool", "_law_most", "_law_rest", "_law_turn"]
theorem sc_l_some : FnScope N_l_some ["_law_pen_here", "_law_pool", "_law_most"] (defScope s_l_some) := ⟨rfl, rfl, rfl, by decide +kernel, rfl, by decide +kernel, by decide +kernel⟩

theorem idx_some {ls : List Nat} {x : Nat} (h : x ∈ ls) : ls.idxOf x < ls.length ∧ ls[ls.idxOf x]? = some x ∧ ∀ m z, m < ls.idxOf x → ls[m]? = some z → z ≠ x := by
  have l := List.idxOf_lt_length_of_mem h
  refine ⟨l, by rw [List.getElem?_eq_getElem l, List.getElem_idxOf], fun m z hm hz e => ?_⟩
  have ml : m < ls.length := by omega
  rw [List.getElem?_eq_getElem ml] at hz
  have e2 : ls[m] = x := by rw [Option.some.inj hz, e]
  have := List.not_of_lt_findIdx (p := (· == x)) (xs := ls) (i := m) hm
  rw [e2] at this
  simp at this
theorem pe_popK {X : Cx} {K : PySem.W.Frag} {o e : Expr} {es : List Expr} {to : TE} {t : TA} {apos cpos : Pos} (hK : X.K = K) (ho : PE X o to) (ha : PA X (e :: es) t)
    (hbase : attributeBase o "pop" X.env (eval o X.env) = eval o X.env := by rfl)
    (hfew : ((backTo cpos (starEach (e :: es) X.env)).all (fun x => !x.1) && (backToKw cpos (keywordEach [] X.env)).all (fun x => x.1.isSome)
      && decide ((e :: es).length + ([] : List Keyword).length + (if ([] : List Keyword).isEmpty then 0 else 1) < 30)) = true := by rfl)
    (hline : (apos.endLine == cpos.line) = true := by rfl) (hs : starEach (e :: es) X.env = (false, eval e X.env) :: starEach es X.env := by rfl) (hplain : (backTo cpos (starEach es X.env)).any (·.1) = false := by rfl) :
    PE X (.Call (.Attribute o "pop" apos) (e :: es) [] cpos) (tBM K "list" rPopAt to t) := by
  subst hK
  exact pe_bm PySem.F.plainAttrs_list PySem.F.slot_list_pop PySem.F.type_list_pop mt_popAt ho ha hbase hfew hline hs hplain
theorem eraseV {α : Type} : ∀ (l : List α) (n : Nat) (h : n < l.length), (l[n] :: l.eraseIdx n).Perm l
  | [], _, h => absurd h (Nat.not_lt_zero _)
  | _ :: _, 0, _ => List.Perm.refl _
  | a :: l, n + 1, h => (List.Perm.swap a _ _).trans ((eraseV l n (Nat.lt_of_succ_lt_succ h)).cons a)
theorem paired_perm {α β : Type} {R : α → β → Prop} {a b : List α} (p : a.Perm b) : ∀ {l : List β}, Paired R b l → ∃ l', Paired R a l' ∧ l'.Perm l := by
  induction p with
  | nil => intro l h; exact ⟨l, h, List.Perm.refl _⟩
  | cons x _ ih =>
    intro l h
    cases h with
    | cons r t =>
      obtain ⟨l', h1, h2⟩ := ih t
      exact ⟨_ :: l', .cons r h1, h2.cons _⟩
  | swap x y l0 =>
    intro l h
    cases h with
    | cons r t =>
      cases t with
      | cons r2 t2 => exact ⟨_, .cons r2 (.cons r t2), List.Perm.swap _ _ _⟩
  | trans _ _ ih1 ih2 =>
    intro l h
    obtain ⟨l1, h1, p1⟩ := ih2 h
    obtain ⟨l2, h2, p2⟩ := ih1 h1
    exact ⟨l2, h2, p2.trans p1⟩
theorem paired_split {α β : Type} {R : α → β → Prop} : ∀ {a b : List α} {l : List β}, Paired R (a ++ b) l → ∃ l1 l2, l = l1 ++ l2 ∧ Paired R a l1 ∧ Paired R b l2
  | [], _, l, h => ⟨[], l, rfl, .nil, h⟩
  | x :: a, b, _, .cons r t => by
    obtain ⟨l1, l2, e, h1, h2⟩ := paired_split t
    exact ⟨_ :: l1, l2, by rw [e]; rfl, .cons r h1, h2⟩
def NatV (x : V) (p : Nat) : Prop := x = .int ((p : Nat) : Int)
theorem paired_nvs : ∀ ps : List Nat, Paired NatV (nvs ps) ps
  | [] => .nil
  | p :: ps => .cons rfl (paired_nvs ps)
theorem nvs_paired : ∀ {xs : List V} {ps : List Nat}, Paired NatV xs ps → xs = nvs ps
  | _, _, .nil => rfl
  | _, _, .cons r t => by
    have e : _ = V.int _ := r
    rw [e, nvs_paired t]
    rfl
def sp_someV : Sp := fun vs H Q _ => ∃ (q : Pn) (m : Nat) (c : Addr) (xs : List V) (most : Int), vs = [.ref q.p, .ref c, .int most] ∧ Pen q m H ∧ m + 101 < 1000000000000 ∧ H c = some (.lst xs) ∧ xs.length ≤ 1000 ∧ 0 ≤ most ∧ most ≤ 100 ∧
  ∀ l H' ys rest, Go q (m + 101) H H' → H l = none → H' l = some (.lst ys) → (ys ++ rest).Perm xs → (ys.length : Int) ≤ most → Q (.ref l) H'
section
variable {P : Program} {w : World} {K : PySem.W.Frag} {mg : Str → Option Value} {base : Heap}
theorem ok_someV {f : Addr} {fd : FuncData} (F : Fun K "_law_some" "_law_some" s_l_some f fd) (T : Txt mg) (c_l_draw : Cal P w K mg base 2 "_law_draw" ["_law_pen_here", "_law_under"] sp_draw) : FnOk P w K mg base CX0 3 f fd ["_law_pen_here", "_law_pool", "_law_most"] sp_someV := by
  refine F.ok sc_l_some (fun vs H Q E h => ?_) (fun cdv A outer s H vs Q E hr h => ?_)
  · obtain ⟨_, _, _, _, _, rfl, _⟩ := h
    rfl
  obtain ⟨q, m, c, xs, most, rfl, pn, hm, hc, lc, m0, m1, k⟩ := h
  refine ⟨_, (pss_cons (ps_set (i := 3) sc_l_some.nd rfl (Or.inr rfl) (pe_callTy call_list' (by rfl) T.list (by decide +kernel) (pa_cons (pv 1) pa_nil)))
    (pss_one (ps_ret (pe_lc (own := [("_law_turn", 4)]) (g := (gName 4)) (tt := tYes) rfl sc_l_some.nd (pi_range1 rfl T.range (pa_cons (pe_cal c_l_draw hr (pa_cons (pv 0) (pa_cons (pe_op op_add (pe_callB (call_min2 rfl) (by rfl) T.min (by decide +kernel) (pa_cons (pv 2) (pa_cons (pe_callB call_len' (by rfl) T.len (by decide +kernel) (pa_cons (pv 3) pa_nil)) pa_nil))) pe_int) pa_nil))) pa_nil)) (blkOk_by (own := [("_law_turn", 4)]) (N := N_l_some) (sc := defScope s_l_some) (by decide +kernel)) (fun _ _ _ _ _ => pg_name (i := 4) sc_l_some.nd rfl (Or.inl rfl)) (fun _ _ _ _ _ => pts_nil) (fun _ _ _ _ _ => (pe_popK (K := K) rfl (pv 3) (pa_cons (pe_cal c_l_draw hr (pa_cons (pv 0) (pa_cons (pe_callB call_len' (by rfl) T.len (by decide +kernel) (pa_cons (pv 3) pa_nil)) pa_nil))) pa_nil))))))), ?_⟩
  refine ⟨_, rfl, c, _, rfl, .inl hc, fun r H1 n1 s1 h1 => ?_⟩
  have pn1 := pn.same s1
  have nr := pn.free n1
  refine ⟨_, rfl, _, rfl, _, rfl, r, _, rfl, .inl h1, ?_⟩
  obtain ⟨mn, hmn, mn0, mn1, mn2, mn3⟩ : ∃ mn : Int, (if ((xs.length : Nat) : Int) < most then ((xs.length : Nat) : Int) else most) = mn ∧ 0 ≤ mn ∧ mn ≤ (xs.length : Int) ∧ mn ≤ 100 ∧ mn ≤ most := by
    by_cases z : ((xs.length : Nat) : Int) < most
    · exact ⟨_, if_pos z, by omega, by omega, by omega, by omega⟩
    · exact ⟨_, if_neg z, by omega, by omega, by omega, by omega⟩
  refine ⟨_, _, rfl, ?_⟩
  rw [hmn]
  refine ⟨_, _, rfl, rfl, q, m, _, rfl, by omega, by omega, pn1, by omega, fun d H2 d0 d1 g2 => ⟨_, rfl, by omega, by omega, fun D hD => ?_⟩⟩
  have g2' : Go q (m + 1) H H2 := (Go.of pn s1).trans g2
  have hr2 := g2.kp.lst nr.1 h1
  have nD : H D = none := g2'.none pn hD
  have rD : r ≠ D := fun z => by rw [← z, hr2] at hD; cases hD
  refine lc_range (lo := 0) (fun i H' => ∃ rs rest, Go q (m + 1 + i) H H' ∧ H' D = some (.lst rs) ∧ H' r = some (.lst rest) ∧ (rs ++ rest).Perm xs ∧ rs.length = i) ?_ ?_ ?_
  · exact ⟨[], xs, Go.mut pn nD g2', upd_same, by rw [upd_ne rD]; exact hr2, List.Perm.refl _, rfl⟩
  · rintro i H' hi ⟨rs, rest, g, hD', hr', pe, rl⟩
    have tl : rs.length + rest.length = xs.length := by rw [← List.length_append]; exact pe.length_eq
    have ri : 0 < rest.length := by omega
    refine ⟨rfl, _, rfl, .inl ⟨rfl, _, SqL.of hr'⟩, _, rfl, _, rfl, r, _, rfl, .inl hr', q, _, _, rfl, by omega, by omega, g.pen, by omega, fun e H3 e0 e1 g3 => ?_⟩
    obtain ⟨n, rfl⟩ := Int.eq_ofNat_of_zero_le e0
    have nl : n < rest.length := by omega
    have hr3 := g3.kp.lst nr.1 hr'
    have hD3 := g3.kp.lst (pn.free nD).1 hD'
    refine ⟨r, rest, (n : Int), n, rest[n], rfl, rfl, hr3, by omega, by omega, ?_, List.getElem?_eq_getElem nl, ?_⟩
    · unfold seqIndex?
      rw [if_neg (show ¬ (n : Int) < 0 by omega)]
      rw [if_pos (by rw [decide_eq_true (show (0 : Int) ≤ (n : Int) by omega), decide_eq_true (show (n : Int) < (rest.length : Int) by omega)]; rfl)]
      rfl
    refine ⟨_, by rw [upd_ne rD.symm]; exact hD3, szl (by omega), rs ++ [rest[n]], rest.eraseIdx n, ?_, upd_same, ?_, ?_, by rw [List.length_append, rl]; rfl⟩
    · exact (Go.mut pn nD (Go.mut pn n1 (g.trans g3))).mono (by omega)
    · rw [upd_ne rD, upd_same]
    · refine List.Perm.trans ?_ pe
      rw [List.append_assoc]
      exact (eraseV rest n nl).append_left rs
  · rintro H3 ⟨rs, rest, g, hD', hr', pe, rl⟩
    exact k D H3 rs rest (g.mono (by omega)) nD hD' pe (by omega)
end
end Af

set_option Elab.async false
set_option linter.all false
set_option maxRecDepth 100000
set_option maxHeartbeats 2000000
namespace Af
open PySem PySem.Spec PyProof.Rows L2
/-! list(d.values()) -/
def tListVals (te : TE) : TE := fun σ H Q => te σ H fun x H1 => ∃ d kvs, x = .ref d ∧ H1 d = some (.dK kvs) ∧ ∀ q, H1 q = none → Q (.ref q) (upd H1 q (.lst (kvs.map (·.2))))
theorem kv_vals : ∀ {ks : List (L2.Key × V)} {vs : List (L2.Key × Value)}, KV ks vs → ∀ (j : Nat) (x : V) (u : Value), (ks.map (·.2))[j]? = some x → (vs.map (·.2))[j]? = some u → RelV x u := fun {ks vs} h => by
  unfold KV at h
  induction h with
  | nil => intro j x u h1; simp at h1
  | @cons p q ps qs h t k =>
    intro j x u h1 h2
    cases j with
    | zero =>
      cases h1
      cases h2
      exact h.2
    | succ j => exact k j x u (by simpa using h1) (by simpa using h2)
section
variable {X : Cx} {e : Expr} {te : TE} {p pos apos cpos : Pos}
theorem pe_listVals (hc : X.calm = true) (he : PE X e te) (hg : Gl X "list") (hm : X.mg "list" = none) (hv : bootBuiltins "list" = some (.type "list")) (hbase : attributeBase e "values" X.env (eval e X.env) = eval e X.env := by rfl) (hline : (apos.endLine == cpos.line) = true := by rfl)
    (hs : starEach [.Call (.Attribute e "values" apos) [] [] cpos] X.env = (false, eval (.Call (.Attribute e "values" apos) [] [] cpos) X.env) :: starEach [] X.env := by rfl) :
    PE X (.Call (.Name "list" p) [.Call (.Attribute e "values" apos) [] [] cpos] [] pos) (tListVals te) := by
  refine ⟨fun pins s σ H Q I hq => ?_⟩
  refine wpAny_Call_Name_kw (ld_blt I hg hm hv ?_)
  refine PyProof.Rows.callWith_type1 ?_ hs rfl
  rw [hs]
  show wpAny _ _ (spliced ((false, eval (.Call (.Attribute e "values" apos) [] [] cpos) X.env) :: backTo pos (starEach [] X.env))) _ _ s
  refine Calls.spliced_cons ?_
  refine wpAny_Call_method (T := "dict") (id := "dict.values") hbase rfl hline F.plainAttrs_dict F.slot_dict_values F.type_dict_values (thn (he.run pins s σ H _ I hq) fun u s1 ⟨x, H1, I1, rx, d, kvs, ex, hd, q⟩ => ?_)
  subst ex
  obtain rfl : u = Value.ref d := rx
  obtain ⟨hz, hs0, vs, kv, hdo⟩ := I1.hok d _ hd
  obtain ⟨ep, hat⟩ := hdo.dictAt
  have lk : kvs.length = vs.length := Paired.length kv
  have I2 : Inv X pins σ H1 { s1 with heap := s1.heap.push { cls := .type "dict_values", data := .fields #[.ref d] } } := I1.kept (t' := s1.toks) fun b ob q => Heap.get?_push_of_some _ q
  refine ⟨hdo.typeIs, hdo.mapOf.noDict, ?_⟩
  show wpAny _ _ (callWith cpos (.builtin "dict.values") [.ref d] [] []) _ X.xe s1
  refine method_meetsIn F.slot_dict_values F.entry_dict_values rfl (PySem.evalArgs_none ⟨rfl, hdo.typeIs, F.args_dict_values_1 _, _, meets_dict_values (mixKind X.prog X.w) d hs0, ⟨vs, hdo⟩, ?_⟩)
  refine Calls.spliced_nil ?_
  refine PySem.W.kdl_call (PySem.W.kdl_values (knd := mixKind X.prog X.w) (kvs := vs) (ep := ep)) (I1.ok.hd hc) ⟨⟨_, Heap.get?_push_size _ rfl, rfl, rfl⟩, hat.push _⟩ (by omega) fun h' tk acc c hk hS hacc => ?_
  refine ⟨.ref _, _, I2.laid (t' := tk) hk (Nat.le_refl _) (show ObjOk X.prog X.w _ _ _ (.lst (kvs.map (·.2))) from ⟨?_, acc.toList, c, ?_, ?_⟩), rfl, q _ (I2.hok.fresh (Nat.le_refl _))⟩
  · rw [List.length_map]; exact hz
  · have el : acc.toList.length = acc.size := by simp
    refine vals_of_at (by rw [List.length_map, el, hacc.1, lk]) fun j x u h1 h2 => ?_
    obtain ⟨k, hky⟩ := hacc.2 j u (by rw [← Array.getElem?_toList]; exact h2)
    exact kv_vals kv j x u h1 (by rw [List.getElem?_map, hky]; rfl)
  · rw [Array.toArray_toList]; exact hS
end
end Af

set_option Elab.async false
set_option linter.all false
set_option maxRecDepth 100000
set_option maxHeartbeats 4000000
namespace Af
open PySem PySem.Spec PyProof.Rows L2
open Sem (wp)
/-! a display of a dict that begins with another one's entries: {**a, k: v, ..} -/
section
variable {prog : Program} {w : World} {K : Type} [DecidableEq K] {knd : KeyKind prog w K} {A : Around} {E : Value → Shared → Prop} {s : Shared}
theorem dictPut_eq (d : Addr) (h : Int) (key v : Value) : True := trivial
theorem wpAny_dictPut {d : Addr} {kvs : List (K × Value)} {k : K} {key v : Value} {Q : Unit → Shared → Prop} (hkey : knd.is k key = true) (hm : s.heap.DictOf knd d kvs)
    (hQ : ∀ h', h'.DictOf knd d (stored kvs k v) → Heap.SameBut d s.heap h' → Q () { s with heap := h' })
    (hsz : kvs.length ≤ sizeLine) :
    wpAny (model prog w) A (dictPut d (knd.hash k) key v) Q E s := by
  obtain ⟨o, es, ep, ho, hc, hd, hk, hp, hn⟩ := hm
  have hes : es.size ≤ sizeLine := by
    have e1 := hp.length
    have e2 : es.toList.length = es.size := by simp
    omega
  unfold dictPut
  refine wpAny_bind (wpAny_dictFind_of hkey ho hd hk ?_)
  have hidx : (es.findIdx? fun e => knd.is k e.key) = kvs.findIdx? fun kv => decide (kv.1 = k) := by
    rw [← hp.findIdx k]; obtain ⟨l⟩ := es; simp
  cases hi : es.findIdx? fun e => knd.is k e.key with
  | some i =>
    refine wpAny_updateDict ho hd (hQ _ ⟨_, _, ep, Heap.get?_update_self _ ho (Obj.isFreed_of_dict (Obj.data_mapDict hd _)),
      hc.mapDict _, Obj.data_mapDict hd _, hk.modify _ _, ?_, ?_⟩ (Heap.SameBut.update ..))
    · rw [stored, if_pos (any_of_findIdx_some (hidx ▸ hi))]
      have hl : (es.toList.findIdx? fun e => knd.is k e.key) = some i := by rw [← hi]; obtain ⟨l⟩ := es; simp
      have := hp.modify hn hl v
      obtain ⟨l⟩ := es
      simpa using this
    · rw [stored, if_pos (any_of_findIdx_some (hidx ▸ hi)), keys_map_store]; exact hn
  | none =>
    have hnot : k ∉ kvs.map (·.1) := not_mem_of_findIdx_none (hidx ▸ hi)
    have hany : ¬ (kvs.any fun kv => decide (kv.1 = k)) = true := by
      rw [List.any_eq_true]; rintro ⟨kv, hkv, he⟩
      exact hnot (List.mem_map.mpr ⟨kv, hkv, of_decide_eq_true he⟩)
    refine wpAny_updateDictKeys (hz := hes) ho hd (hQ _ ⟨_, _, ep + 1, Heap.get?_update_self _ ho (Obj.isFreed_of_dict (Obj.data_mapDictKeys hd _)),
      hc.mapDictKeys _, Obj.data_mapDictKeys hd _, hk.push hkey _, ?_, ?_⟩ (Heap.SameBut.update ..))
    · rw [stored, if_neg hany]
      have := hp.append hkey (knd.hash k) v
      obtain ⟨l⟩ := es
      simpa using this
    · rw [stored, if_neg hany, List.map_append, List.nodup_append]
      refine ⟨hn, by simp, ?_⟩
      intro a ha b hb
      simp only [List.map_cons, List.map_nil, List.mem_singleton] at hb
      subst hb
      exact fun e => hnot (e ▸ ha)
theorem wpAny_mergeMapping {d a : Addr} {kvs more : List (K × Value)} {Q : Unit → Shared → Prop} (hdo : d ≠ a) (hoS : (a == sysModules) = false)
    (hd : s.heap.DictOf knd d kvs) (ho : s.heap.DictOf knd a more)
    (hQ : ∀ h', h'.DictOf knd d (merged kvs more) → h'.DictOf knd a more → Heap.SameBut d s.heap h' → Q () { s with heap := h' })
    (hsz : kvs.length + more.length ≤ sizeLine) :
    wpAny (model prog w) A (mergeMapping d (.ref a) false) Q E s := by
  obtain ⟨od, esd, epd, hod, hcd, hdd, hkd, hpd, hnd⟩ := id hd
  obtain ⟨oo, eso, epo, hoo, hco, hdo', hko, hpo, hno⟩ := id ho
  have hlen : more.length = eso.size := by rw [← hpo.length]; simp
  unfold mergeMapping
  refine wpAny_bind (wpAny_isInstance ho.typeIs isSubtype_dict_dict ?_)
  simp only [if_true]
  refine wpAny_bind (wpAny_specialOf ho.typeIs F.slot_dict_iter.lookup (wpAny_bind (wpAny_pure ?_)))
  simp only [beq_self_eq_true]
  rw [if_neg (by rw [hoS]; exact Bool.false_ne_true)]
  have loop : wpAny (model prog w) A (do
      let l ← dictEntries a
      let epoch ← dictEpoch a
      forIn (List.range l.size) PUnit.unit fun i (_ : PUnit) => (do
          let l' ← dictEntries a
          match l'[i]? with
            | some e => do
              holding [e.key, e.val] (dictPut d e.hash e.key e.val)
              let ep' ← dictEpoch a
              if (ep' != epoch) = true then do
                  (unsupported "dict.changed-during-merge" : Sem PUnit)
                  pure (ForInStep.yield PUnit.unit)
                else pure (ForInStep.yield PUnit.unit)
            | _ => do
              (unsupported "dict.changed-during-merge" : Sem PUnit)
              pure (ForInStep.yield PUnit.unit) : Sem (ForInStep PUnit))
      pure ()) Q E s := by
    refine wpAny_bind (wpAny_dictEntries hoo hdo' ?_)
    refine wpAny_bind (wpAny_dictEpoch hoo hdo' ?_)
    refine wpAny_bind ?_
    rw [List.range_eq_range']
    refine wpAny_forIn_list _
      (fun rest _ s' => ∃ h' i, s' = { s with heap := h' } ∧ rest = List.range' i (eso.size - i) ∧ i ≤ eso.size ∧ h'.DictOf knd d (merged kvs (more.take i)) ∧ h'.get? a = some oo ∧ Heap.SameBut d s.heap h')
      _ ?_ ?_ _ _ ⟨s.heap, 0, rfl, by simp, Nat.zero_le _, by simpa [merged] using hd, hoo, Heap.SameBut.refl _ _⟩
    · rintro x rest b s' ⟨h', i, rfl, hr, hi, hd', hoo', hs'⟩
      have hlt : i < eso.size := by
        rcases Nat.lt_or_ge i eso.size with h | h
        · exact h
        · rw [Nat.sub_eq_zero_of_le h] at hr; simp at hr
      obtain ⟨rfl, hrest⟩ : x = i ∧ rest = List.range' (i + 1) (eso.size - (i + 1)) := by
        have e : eso.size - i = (eso.size - (i + 1)) + 1 := by omega
        rw [e, List.range'_succ] at hr
        injection hr with h1 h2
        exact ⟨h1, h2⟩
      refine wpAny_bind (wpAny_dictEntries hoo' hdo' ?_)
      rw [Array.getElem?_eq_getElem hlt]
      obtain ⟨kv, hkv⟩ : ∃ kv, more[x]? = some kv := ⟨more[x]'(by rw [hlen]; exact hlt), List.getElem?_eq_getElem _⟩
      obtain ⟨k, v⟩ := kv
      obtain ⟨hkey, hval⟩ := hpo.get? (e := eso[x]) (by simp [hlt]) hkv
      obtain ⟨k', hkey', hhash⟩ := hko eso[x] (Array.getElem_mem hlt)
      obtain rfl : k' = k := knd.inj _ _ _ hkey' hkey
      show wpAny _ _ (holding [eso[x].key, eso[x].val] (dictPut d eso[x].hash eso[x].key eso[x].val) >>= _) _ _ _
      rw [hhash, hval]
      have hmx : (merged kvs (more.take x)).length ≤ sizeLine := by
        have e1 := merged_length_le kvs (more.take x)
        have e2 : (more.take x).length ≤ more.length := by rw [List.length_take]; omega
        omega
      refine wpAny_bind (wpAny_holding (wpAny_dictPut hkey hd' (fun h'' hd'' hs'' => ?_) hmx))
      have hoo'' : h''.get? a = some oo := (hs''.2 a (Ne.symm hdo)).trans hoo'
      refine wpAny_bind (wpAny_dictEpoch hoo'' hdo' ?_)
      rw [if_neg (by simp)]
      exact wpAny_pure ⟨h'', x + 1, rfl, hrest, hlt, by rw [merged_take_succ kvs more x (k', v) hkv]; exact hd'', hoo'', hs'.trans hs''⟩
    · rintro b s' ⟨h', i, rfl, hr, hi, hd', hoo', hs'⟩
      have hin : i = eso.size := by
        rcases Nat.lt_or_ge i eso.size with h | h
        · have e : eso.size - i = (eso.size - (i + 1)) + 1 := by omega
          rw [e, List.range'_succ] at hr; exact nomatch hr
        · exact Nat.le_antisymm hi h
      refine wpAny_pure (hQ h' ?_ ⟨oo, eso, epo, hoo', hco, hdo', hko, hpo, hno⟩ hs')
      rw [hin, ← hlen, List.take_length] at hd'; exact hd'
  refine wpAny_bind (wpAny_dictEntries hod hdd ?_)
  split
  · refine wpAny_bind (wpAny_dictEntries hoo hdo' ?_)
    have h0 : (forIn eso PUnit.unit fun (e : DictEntry) (_ : PUnit) => (match e.key with
        | Value.ref a => do
          let q ← specialOf e.key (Str.ofString "__eq__")
          if (q != some (Value.builtin "object.__eq__")) = true then
              if (Array.filter (fun x => x.hash == e.hash) eso).size > 1 then do
                (unsupported "dict.merge-into-an-empty-dict:keys-of-equal-hash" : Sem PUnit)
                pure (ForInStep.yield PUnit.unit)
              else pure (ForInStep.yield PUnit.unit)
            else pure (ForInStep.yield PUnit.unit)
        | x => pure (ForInStep.yield PUnit.unit) : Sem (ForInStep PUnit))) = pure PUnit.unit := by
      rw [← Array.forIn_toList]
      refine forIn_yield_id _ fun e he c => ?_
      obtain ⟨k, hkey, _⟩ := hko e (Array.mem_toList_iff.mp he)
      have b := knd.byValue k _ hkey
      cases hk : e.key <;> first | rfl | (rw [hk] at b; cases b)
    exact wpAny_bind (wpAny_of_eq h0 loop)
  · exact loop
theorem forIn_gatherM (main : Option Addr) (f : (Option (Sem Value) × Sem Value) → (Option Addr × List (Sem Value × Sem Value)) → Sem (ForInStep (Option Addr × List (Sem Value × Sem Value))))
    (hf : ∀ (p : Sem Value × Sem Value) (run : List (Sem Value × Sem Value)), run.length + 1 < 17 → f (some p.1, p.2) (main, run) = pure (.yield (main, run ++ [p]))) :
    ∀ (items run : List (Sem Value × Sem Value)), run.length + items.length < 17 → forIn (items.map fun p => (some p.1, p.2)) (main, run) f = pure (main, run ++ items)
  | [], run, _ => by simp
  | p :: rest, run, h => by
    rw [List.map_cons, List.forIn_cons, hf p run (by simp at h; omega), pure_bind]
    have := forIn_gatherM main f hf rest (run ++ [p]) (by simp at h ⊢; omega)
    simpa using this
theorem wpAny_no {α : Type} {m : Sem α} {Q : α → Shared → Prop} {E' : Value → Shared → Prop} (h : wpAny (model prog w) A m Q (fun _ _ => False) s) : wpAny (model prog w) A m Q E' s := wpAny_mono h (fun _ _ x => x) fun _ _ x => x.elim
theorem wpAny_spread {m : Sem Value} {pairs : List (Sem Value × Sem Value)} {Q : Value → Shared → Prop} (h0 : pairs ≠ []) (hlen : pairs.length ≤ 15)
    (h : wpAny (model prog w) A m (fun v s1 => wpAny (model prog w) A (mergeMapping s.heap.objs.size v false) (fun _ s2 => wpAny (model prog w) A (subDict pairs) (fun sub s3 =>
      wpAny (model prog w) A (mergeMapping s.heap.objs.size (.ref sub) false) (fun _ s4 => Q (.ref s.heap.objs.size) s4) (fun _ _ => False) s3) E s2) (fun _ _ => False) s1) E
      { s with heap := s.heap.push { cls := .type "dict", data := .dict #[] } }) :
    wpAny (model prog w) A (dictDisplay ((none, m) :: pairs.map fun p => (some p.1, p.2))) Q E s := by
  unfold dictDisplay
  dsimp only
  rw [List.forIn_cons]
  simp only [List.isEmpty_nil, if_true, pure_bind]
  refine wpAny_bind (wpAny_bind (wpAny_bind (wpAny_alloc ?_)))
  refine wpAny_bind (wpAny_holding (wpAny_mono h (fun v s1 h1 => ?_) fun _ _ e => e))
  refine wpAny_bind (wpAny_onRaise (wpAny_tryCatch (wpAny_onRaise (wpAny_holding (wpAny_mono h1 (fun _ s2 h2 => ?_) fun _ _ x => x.elim)))))
  refine wpAny_pure ?_
  simp only []
  rw [forIn_gatherM (some s.heap.objs.size) _ (fun p run h => by
    have hne : ((run ++ [(p.1, p.2)]).length == 17) = false := by simp; omega
    simp only [hne, Bool.false_eq_true, if_false]) pairs [] (by simp; omega)]
  refine wpAny_pure ?_
  simp only [List.nil_append]
  have he : pairs.isEmpty = false := by
    cases pairs with
    | nil => exact absurd rfl h0
    | cons a b => rfl
  simp only [he, Bool.false_eq_true, if_false]
  refine wpAny_bind (wpAny_bind (wpAny_holding (wpAny_mono h2 (fun sub s3 h3 => ?_) fun _ _ e => e)))
  refine wpAny_bind (wpAny_onRaise (wpAny_holding (wpAny_mono h3 (fun _ s4 h4 => ?_) fun _ _ x => x.elim)))
  exact wpAny_pure (wpAny_pure h4)
end
/-- {**a, k: v, ..}: the new dict stands empty, then with a's entries, while the pairs are made -/
def tSpread (te : TE) (trs : List (TE × TE)) : TE := fun σ H Q => ∀ p, H p = none → te σ (upd H p (.dK [])) fun x H1 => ∃ a kvs, x = .ref a ∧ a ≠ p ∧ H1 a = some (.dK kvs) ∧ H1 p = some (.dK []) ∧ kvs.length ≤ 1000 ∧
  ∀ p2, H1 p2 = none → tPairs trs σ (upd (upd H1 p (.dK kvs)) p2 (.dK [])) fun ps H2 => H2 p = some (.dK kvs) ∧ H2 p2 = some (.dK []) ∧ ∃ kvs2 : List (Key × V), ps = kvs2.map (fun kv => (kV kv.1, kv.2)) ∧ kvs2.length ≤ 15 ∧
    Q (.ref p) (upd (upd H2 p2 (.dK (mergeK [] kvs2))) p (.dK (mergeK kvs (mergeK [] kvs2))))
theorem pe_spread {X : Cx} {pos : Pos} {e : Expr} {keys : List (Option Expr)} {values : List Expr} {te : TE} {trs : List (TE × TE)} (he : PE X e te) (h : PPs X pos keys values trs) (hall : keys.all (·.isSome) = true) (hl : keys.length = values.length) (h0 : keys ≠ [])
    (h15 : keys.length ≤ 15) : PE X (.Dict (none :: keys) (e :: values) pos) (tSpread te trs) := by
  refine ⟨fun pins s σ H Q I q => ?_⟩
  have hn := I.hok.fresh (Nat.le_refl s.heap.objs.size)
  have I1 := I.laid (a := s.heap.objs.size) (o := .dK []) (h' := s.heap.push { cls := .type "dict", data := .dict #[] }) (t' := s.toks) (fun _ _ q => Heap.get?_push_of_some _ q) (Nat.le_refl _) (dk_empty s.heap I.big)
  rw [arm_eval_Dict]
  refine wpAny_bind (wpAny_standAt ?_)
  have hz : (evalEachOpt (none :: keys) X.env).zip ((evalEach (e :: values) X.env).map fun v => do let x ← v; standAt pos; pure x) = (none, do let x ← eval e X.env; standAt pos; pure x) :: (pairTrees keys values X.env pos).map fun p => (some p.1, p.2) := by
    rw [← zip_pairTrees keys values X.env pos hall hl]
    rfl
  rw [hz]
  have hpl := pairTrees_length keys values X.env pos hall hl
  refine wpAny_spread (by intro z; rw [z] at hpl; exact h0 (List.length_eq_zero_iff.mp hpl.symm)) (by rw [hpl]; exact h15) ?_
  refine wpAny_bind (thn (he.run pins _ σ _ _ I1 (q _ hn)) fun v s1 ⟨x, H1, I2, rx, a, kvs, ex, nap, ha, hp, lk, q2⟩ => wpAny_bind (wpAny_standAt (wpAny_pure ?_)))
  subst ex
  cases rx
  obtain ⟨z, hd, vs, rel, dd⟩ := dk_of I2.hok ha
  obtain ⟨_, hd0, vs0, r0, dd0⟩ := dk_of I2.hok hp
  cases r0
  refine wpAny_mergeMapping (kvs := []) (more := vs) (fun e => nap e.symm) hd dd0 dd (fun h' dd' _ hs => ?_) (by rw [← rel.length, sizeLine_eq, List.length_nil]; omega)
  have hno : (vs.map (·.1)).Nodup := let ⟨_, _, _, _, _, _, _, _, hn⟩ := dd; hn
  rw [merged_nil_of_nodup vs hno] at dd'
  have he1 : ∃ q, h'.get? s.heap.objs.size = some q := let ⟨q, _, _, hq, _⟩ := dd'; ⟨q, hq⟩
  have I3 := d_write (t' := s1.toks) I2 (by rw [hp]; exact True.intro) hs he1 (dk_new z hd0 rel dd')
  have hn2 := I3.hok.fresh (Nat.le_refl h'.objs.size)
  have np2 : h'.objs.size ≠ s.heap.objs.size := fun e => by
    rw [e, upd_same] at hn2
    cases hn2
  rw [upd_ne np2] at hn2
  have I4 := I3.laid (a := h'.objs.size) (o := .dK []) (h' := h'.push { cls := .type "dict", data := .dict #[] }) (t' := s1.toks) (fun _ _ q => Heap.get?_push_of_some _ q) (Nat.le_refl _) (dk_empty h' I3.big)
  refine wpAny_subDict (knd := mixKind X.prog X.w) (by rw [hpl]; exact h15) (thn (h.run pins _ σ _ _ I4 (q2 _ hn2)) fun ws s2 ⟨ps, H2, I5, rel2, e1, e2, kvs2, ep, lk2, q3⟩ => ?_)
  subst ep
  obtain ⟨rs, c, rk⟩ := carries_of (P := X.prog) (w := X.w) rel2
  obtain ⟨z2, hd2, vs2, r2, dd2⟩ := dk_of I5.hok e2
  cases r2
  refine ⟨rs, c, dd2, fun h2 dd3 hs2 => ?_⟩
  have hz2 : (mergeK [] kvs2).length ≤ sizeLine := by
    have h1 := length_mergeK kvs2 []
    rw [List.length_nil] at h1
    rw [sizeLine_eq]; omega
  have he2 : ∃ q, h2.get? h'.objs.size = some q := let ⟨q, _, _, hq, _⟩ := dd3; ⟨q, hq⟩
  have I6 := d_write (t' := s2.toks + ws.length) I5 (by rw [e2]; exact True.intro) hs2 he2 (dk_new hz2 hd2 (rk.merge .nil) dd3)
  have e3 : (upd H2 h'.objs.size (.dK (mergeK [] kvs2))) s.heap.objs.size = some (.dK kvs) := by rw [upd_ne (Ne.symm np2)]; exact e1
  have e4 : (upd H2 h'.objs.size (.dK (mergeK [] kvs2))) h'.objs.size = some (.dK (mergeK [] kvs2)) := upd_same
  obtain ⟨z5, hd5, vs5, r5, dd5⟩ := dk_of I6.hok e3
  obtain ⟨z6, hd6, vs6, r6, dd6⟩ := dk_of I6.hok e4
  refine wpAny_mergeMapping (kvs := vs5) (more := vs6) (Ne.symm np2) hd6 dd5 dd6 (fun h3 dd7 _ hs3 => ?_) ?_
  · have hz3 : (mergeK kvs (mergeK [] kvs2)).length ≤ sizeLine := by
      have h1 := length_mergeK kvs2 []
      have h2 := length_mergeK (mergeK [] kvs2) kvs
      rw [List.length_nil] at h1
      rw [sizeLine_eq]; omega
    have he3 : ∃ q, h3.get? s.heap.objs.size = some q := let ⟨q, _, _, hq, _⟩ := dd7; ⟨q, hq⟩
    exact ⟨.ref s.heap.objs.size, _, d_write (t' := s2.toks + ws.length) I6 (by rw [e3]; exact True.intro) hs3 he3 (dk_new hz3 hd5 (r6.merge r5) dd7), rfl, q3⟩
  · rw [← r5.length, ← r6.length]
    have h1 := length_mergeK kvs2 []
    rw [List.length_nil] at h1
    rw [sizeLine_eq]; omega
end Af

set_option Elab.async false
set_option linter.all false
set_option maxRecDepth 100000
set_option maxHeartbeats 4000000
/-! sorted(xs), xs a list of pairs that begin with a number, all numbers different -/
namespace Af
open PySem PySem.Spec PyProof.Rows L2 Srt SrtO
section
variable {prog : Program} {w : World} {A : Around} {E : Value → Shared → Prop} {s : Shared}
def IsKp (h : Heap) (v : Value) (x : Int) : Prop := ∃ a o t b n, v = .ref a ∧ h.get? a = some o ∧ o.cls = .type "tuple" ∧ o.data = .seq #[.int x t, .ref b] n
theorem IsKp.keeps {h h' : Heap} {v : Value} {x : Int} (p : IsKp h v x) (k : ∀ b o, h.get? b = some o → o.cls = .type "tuple" → h'.get? b = some o) : IsKp h' v x := by
  obtain ⟨a, o, t, b, n, e, ho, hc, hd⟩ := p
  exact ⟨a, o, t, b, n, e, k _ _ ho hc, hc, hd⟩
theorem kfirsts {h : Heap} : ∀ {vs : List Value}, (∀ v ∈ vs, ∃ x, IsKp h v x) → ∃ fs : List Value, PySem.W.KatTups h vs fs ∧ fs.length = vs.length ∧ ∀ f ∈ fs, ∃ x t, f = Value.int x t
  | [], _ => ⟨[], PySem.W.KatTups.nil, rfl, fun _ hm => by simp at hm⟩
  | v :: vs, hp => by
    obtain ⟨fs, h1, h2, h3⟩ := kfirsts (vs := vs) fun v' hm => hp v' (List.mem_cons_of_mem _ hm)
    obtain ⟨x, a, o, t, b, n, e, ho, hc, hd⟩ := hp v (List.mem_cons_self ..)
    subst e
    refine ⟨.int x t :: fs, PySem.W.KatTups.cons ho hc hd rfl h1, by rw [List.length_cons, List.length_cons, h2], fun f hm => ?_⟩
    rcases List.mem_cons.mp hm with rfl | hm
    · exact ⟨x, t, rfl⟩
    · exact h3 f hm
theorem swo_k (k : Value → Int) : Swo fun v u => decide (k v < k u) := by
  refine ⟨fun x y h => ?_, fun x y z h1 h2 => ?_⟩
  · have a := of_decide_eq_true h
    exact decide_eq_false (by omega)
  · have a := of_decide_eq_false h1
    have b := of_decide_eq_false h2
    exact decide_eq_false (by omega)
theorem kp_cmp {vs : List Value} {k : Value → Int} (hp : ∀ v ∈ vs, IsKp s.heap v (k v)) (df : ∀ v ∈ vs, ∀ u ∈ vs, k v = k u → v = u) : Cmp prog w A s (tuples' true) (fun p => p.1 ∈ vs) (lt2 fun v u => decide (k v < k u)) := by
  intro p q hm hm'
  have h1 := hp _ hm
  have h2 := hp _ hm'
  have h3 := df _ hm _ hm'
  show wpAny (model prog w) A (keyLt' (tuples' true) p.1 q.1) (fun r s' => s' = s ∧ r = decide (k p.1 < k q.1)) (fun _ _ => False) s
  generalize k p.1 = x at h1 h3 ⊢
  generalize k q.1 = x' at h2 h3 ⊢
  obtain ⟨a, o, t, b, n, e, ho, hc, hd⟩ := h1
  obtain ⟨a', o', t', b', n', e', ho', hc', hd'⟩ := h2
  rw [e, e'] at h3 ⊢
  refine PySem.W.kat_lt ho hd ho' hd' ?_
  show PySem.W.KatLex prog w A true (decide (2 < 2)) _ [(.int x t, .int x' t'), (.ref b, .ref b')] 0 s
  refine PySem.W.kat_cons (SeqAt.EqAt.int_int x t x' t' prog w _ _ ?_)
  refine PySem.W.kat_go (fun e1 => ?_) (fun e1 => ?_)
  · have ex : x = x' := by simpa using e1
    have ea : a = a' := Value.ref.inj (h3 ex)
    subst ea
    rw [ho] at ho'
    cases ho'
    rw [hd] at hd'
    have eb : b = b' := by
      injection hd' with q1 q2
      have := congrArg Array.toList q1
      simp at this
      exact this.2
    subst eb
    refine PySem.W.kat_yes (PySem.W.kat_cons (SeqAt.EqAt.same (.ref b) prog w _ _ ?_))
    refine PySem.W.kat_go (fun e2 => ?_) (fun e2 => ?_)
    · exact PySem.W.kat_yes (PySem.W.kat_nil ⟨rfl, by rw [ex]; exact (decide_eq_false (Int.lt_irrefl _)).symm⟩)
    · cases e2
  · exact PySem.W.kat_no (oneLt_int ⟨rfl, rfl⟩)
theorem kp_sortable {a : Addr} {vs : List Value} {k : Value → Int} (h0 : 0 < vs.length) (hp : ∀ v ∈ vs, IsKp s.heap v (k v)) (df : ∀ v ∈ vs, ∀ u ∈ vs, k v = k u → v = u) (ha : ∀ o, s.heap.get? a = some o → o.cls ≠ .type "tuple") : SortableO prog w A s a vs fun v u => decide (k v < k u) := by
  intro h' keep
  have hp' : ∀ v ∈ vs, IsKp h' v (k v) := fun v hm => (hp v hm).keeps fun b o e c => keep b o (fun z => by subst z; exact ha o e c) e
  obtain ⟨fs, h1, h2, h3⟩ := kfirsts fun v hm => ⟨_, hp' v hm⟩
  refine ⟨tuples' true, fun Q E hq => ?_, kp_cmp hp' df⟩
  refine PySem.W.kat_kind (T := .type "int") h1 (by omega) (fun f hm => ?_) (by rfl) ?_
  · obtain ⟨x, t, rfl⟩ := h3 f hm
    exact PySem.W.Looks.now
  · have e : (Value.type "int" != Value.type "tuple") = true := by first | decide +kernel | rfl | decide
    rw [e]
    exact hq
theorem sorted_kp {l : Addr} {vs : List Value} {k : Value → Int} {Q : Value → Shared → Prop} (hl : s.heap.IsList l vs.toArray) (hz : vs.length ≤ sizeLine) (hp : ∀ v ∈ vs, IsKp s.heap v (k v)) (df : ∀ v ∈ vs, ∀ u ∈ vs, k v = k u → v = u)
    (h : ∀ (h' : Heap) (d : Addr) (out : List Value), Srtd (fun v u => decide (k v < k u)) out → Stb (fun v u => decide (k v < k u)) out vs → (∀ b o, s.heap.get? b = some o → h'.get? b = some o) → s.heap.objs.size ≤ d → (∃ n, h'.get? d = some (seqObj "list" out.toArray n)) → Q (.ref d) { s with heap := h' }) :
    wpAny (model prog w) A (call (.builtin "sorted") [.ref l]) Q E s := by
  refine sorted_ord (swo_k k) hl hz (fun h2 h₁ a ha kk => ?_) fun out hs hb => ?_
  · refine kp_sortable (s := { s with heap := h₁ }) (by omega) (fun v hm => (hp v hm).keeps fun b o e _ => (kk b o e).2) df fun o e => ?_
    have e' : some o = some (seqObj "list" vs.toArray 0) := e.symm.trans ha
    cases e'
    intro c
    exact absurd (Value.type.inj c) (by decide)
  · exact h _ _ out hs hb (fun b o e => sortedAll_old e) (Nat.le_succ _) (sortedAll_at s.heap vs out.toArray)
end
/-- sorted(xs), xs a list of pairs that begin with different numbers (k says which): a new list of the same, ascending -/
def rSortedKP (K : PySem.W.Frag) : List V → Hp → VK → Prop := fun vs H Q => ∃ (a : Addr) (xs : List V) (k : V → Int), vs = [V.ref a] ∧ SqL K H a xs ∧ (∀ x ∈ xs, ∃ t b, x = V.ref t ∧ H t = some (.tup [.int (k x), .ref b])) ∧ (∀ x ∈ xs, ∀ y ∈ xs, k x = k y → x = y) ∧
  ∀ (ys : List V) p, ys.Perm xs → ys.Pairwise (fun x y => k x ≤ k y) → H p = none → Q (.ref p) (upd H p (.lst ys))
section
variable {X : Cx}
theorem cr_sortedKP : CallR X (.builtin "sorted") (rSortedKP X.K) := by
  intro pins s σ H vs us Q I r h
  obtain ⟨a, xs, k, rfl, hs, hx, df, q⟩ := h
  obtain ⟨its, rv, hl, hz⟩ := I.list hs
  obtain ⟨u, rfl, ru⟩ := vals1 r
  obtain rfl : u = Value.ref a := ru
  obtain ⟨e1, e2⟩ := refs_back rv fun x m => by
    obtain ⟨t, b, e, _⟩ := hx x m
    exact ⟨t, e⟩
  have back : ∀ v ∈ its, ∃ t, v = Value.ref t ∧ backV v = V.ref t ∧ V.ref t ∈ xs := fun v hv => by
    obtain ⟨t, rfl⟩ := e2 v hv
    exact ⟨t, rfl, rfl, by rw [e1]; exact List.mem_map.mpr ⟨_, hv, rfl⟩⟩
  refine sorted_kp (k := fun u => k (backV u)) hl.isList (by rw [← rv.length]; exact hz) (fun v hv => ?_) (fun v hv u hu e => ?_) fun h' d out h1 h2 kp hd hn => ?_
  · obtain ⟨t, rfl, eb, hm⟩ := back v hv
    obtain ⟨t', b, e, ht⟩ := hx _ hm
    cases e
    obtain ⟨_, its2, r2, o, ho, hc, n, hd⟩ := I.hok _ _ ht
    obtain ⟨u1, u2, rfl, ri, rj⟩ := vals2 r2
    obtain ⟨t1, rfl⟩ := ri
    cases rj
    exact ⟨t, o, t1, b, n, rfl, ho, hc, hd⟩
  · obtain ⟨t, rfl, eb, hm⟩ := back v hv
    obtain ⟨t', rfl, eb', hm'⟩ := back u hu
    rw [eb, eb'] at e
    have := df _ hm _ hm' e
    injection this with this
    rw [this]
  · have h3 : ∀ u ∈ out, ∃ a, u = Value.ref a := fun u hu => e2 u (h2.perm.mem_iff.mp hu)
    obtain ⟨n, hn⟩ := hn
    have hp : (out.map backV).Perm xs := by
      rw [e1]
      exact h2.perm.map backV
    refine ⟨.ref d, upd H d (.lst (out.map backV)), I.laid (t' := s.toks) kp hd ⟨?_, out, n, vals_back h3, hn⟩, rfl, q _ d hp ?_ (I.hok.fresh hd)⟩
    · rw [hp.length_eq]
      exact hz
    · rw [List.pairwise_map]
      refine List.Pairwise.imp (fun {u v} huv => ?_) h1
      have := of_decide_eq_false huv
      omega
end
end Af

set_option Elab.async false
set_option linter.all false
set_option maxRecDepth 100000
set_option maxHeartbeats 4000000
/-! a walk over zip(xs, t), xs a list and t a tuple -/
namespace Af
open PySem PySem.Spec PyProof.Rows L2
def ItzM (K : PySem.W.Frag) (a b : Addr) : It where
  go := fun i H => ∃ (xs ys : List V) (x y : V), SqL K H a xs ∧ SqT K H b ys ∧ xs[i]? = some x ∧ ys[i]? = some y
  yld := fun i H v H' => ∃ T x y, v = .ref T ∧ H T = none ∧ H' = upd H T (.tup [x, y]) ∧ (∀ xs, SqL K H a xs → xs[i]? = some x) ∧ ∀ ys, SqT K H b ys → ys[i]? = some y
  stop := fun i H => ∃ xs ys : List V, SqL K H a xs ∧ SqT K H b ys ∧ i = min xs.length ys.length
def ZmAt (z TI TO i1 i2 l t : Addr) (i : Nat) (h : Heap) : Prop := IsZip h z TI TO .none ∧ IsTupOf2 h TI (.ref i1) (.ref i2) ∧ (∃ a1 a2, IsTupOf2 h TO a1 a2) ∧ h.IsListIter i1 l i ∧ h.IsTupleIter i2 t i
theorem zm_sep {N l t : Addr} (hl : l < N) (ht : t < N) : ZipSep2 (N + 4) (N + 2) (N + 3) N (N + 1) [N, l] [N + 1, t] := by
  have h1 : l ≠ N + 4 ∧ l ≠ N + 3 ∧ l ≠ N + 1 := ⟨Nat.ne_of_lt (Nat.lt_add_right 4 hl), Nat.ne_of_lt (Nat.lt_add_right 3 hl), Nat.ne_of_lt (Nat.lt_add_right 1 hl)⟩
  have h2 : t ≠ N + 4 ∧ t ≠ N + 3 ∧ t ≠ N := ⟨Nat.ne_of_lt (Nat.lt_add_right 4 ht), Nat.ne_of_lt (Nat.lt_add_right 3 ht), Nat.ne_of_lt ht⟩
  have p : ∀ j k : Nat, j ≠ k → (N + j : Nat) ≠ N + k := fun j k n e => n (Nat.add_left_cancel e)
  have q : ∀ j : Nat, j ≠ 0 → (N + j : Nat) ≠ N := fun j n e => n (Nat.add_left_cancel (e.trans (Nat.add_zero N).symm))
  refine ⟨p 2 4 (by decide), p 3 4 (by decide), p 2 3 (by decide), q 2 (by decide), List.mem_cons_self, ?_, ?_, p 2 1 (by decide), List.mem_cons_self, ?_, ?_, ?_, ?_⟩
  · exact fun m => by
      rcases List.mem_cons.mp m with e | m
      · exact q 4 (by decide) e
      · exact h1.1 (List.mem_singleton.mp m).symm
  · exact fun m => by
      rcases List.mem_cons.mp m with e | m
      · exact q 3 (by decide) e
      · exact h1.2.1 (List.mem_singleton.mp m).symm
  · exact fun m => by
      rcases List.mem_cons.mp m with e | m
      · exact p 4 1 (by decide) e
      · exact h2.1 (List.mem_singleton.mp m).symm
  · exact fun m => by
      rcases List.mem_cons.mp m with e | m
      · exact p 3 1 (by decide) e
      · exact h2.2.1 (List.mem_singleton.mp m).symm
  · exact fun m => by
      rcases List.mem_cons.mp m with e | m
      · exact q 1 (by decide) e.symm
      · exact h2.2.2 (List.mem_singleton.mp m).symm
  · exact fun m => by
      rcases List.mem_cons.mp m with e | m
      · exact q 1 (by decide) e
      · exact h1.2.2 (List.mem_singleton.mp m).symm
theorem zm_turn {P : Program} {w : World} {K : PySem.W.Frag} {elts : List Expr} {kk : Nat} {tpos : Pos} {a b z TI TO i1 i2 : Addr} (S : ZipSep2 z TI TO i1 i2 [i1, a] [i2, b]) (na : a ≠ i1) (nb : b ≠ i2) :
    Turn P w K (.Tuple elts kk tpos) (ItzM K a b) [z, TI, TO, i1, i2] z (ZmAt z TI TO i1 i2 a b) where
  mem := List.mem_cons_self
  obj := fun i h st c hc => by
    obtain ⟨hz, hI, ⟨x, y, hO⟩, ⟨o1, e1, c1, d1⟩, ⟨o2, e2, c2, d2⟩⟩ := st
    simp only [List.mem_cons, List.not_mem_nil, or_false] at hc
    rcases hc with rfl | rfl | rfl | rfl | rfl
    · exact ⟨_, hz, fun v q => by cases q⟩
    · exact ⟨_, hI, fun v q => by cases q⟩
    · exact ⟨_, hO, fun v q => by cases q⟩
    · exact ⟨_, e1, fun v q => by rw [d1] at q; cases q⟩
    · exact ⟨_, e2, fun v q => by rw [d2] at q; cases q⟩
  keep := fun i h h' st k => by
    obtain ⟨hz, hI, ⟨x, y, hO⟩, h1, h2⟩ := st
    refine ⟨k z ?_ _ hz, k TI ?_ _ hI, ⟨x, y, k TO ?_ _ hO⟩, h1.at fun o q => k i1 ?_ o q, h2.at fun o q => k i2 ?_ o q⟩ <;> simp
  item := by
    intro X hP hw hK hc i pins s σ H E I hf st hg
    subst hP hw hK
    obtain ⟨hz, hI, hO, h1, h2⟩ := st
    obtain ⟨xs, ys, x, y, hqx, hqy, hx, hy⟩ := hg
    obtain ⟨its, rv, p, _⟩ := I.list hqx
    obtain ⟨its2, rv2, p2, _⟩ := I.tuple hqy
    have hh : X.A.in1.handled = none := I.ok.hd hc
    have W := GoesN.zip2 (prog := X.prog) (w := X.w) (A := X.A) (elts := elts) (x1 := kk) (pos := tpos) S (Draws.list hh i1 a na its.toArray) (Draws.tuple hh i2 b nb its2.toArray)
    have lx : i < its.length := by rw [← rv.length]; exact (List.getElem?_eq_some_iff.mp hx).1
    have ly : i < its2.length := by rw [← rv2.length]; exact (List.getElem?_eq_some_iff.mp hy).1
    have hi : i < min its.toArray.size its2.toArray.size := Nat.lt_min.mpr ⟨lx, ly⟩
    refine W.goes i s (fun u s2 => ∃ v H', Inv X pins σ H' s2 ∧ RelV v u ∧ (ItzM X.K a b).yld i H v H' ∧ ZmAt z TI TO i1 i2 a b (i + 1) s2.heap ∧ ∀ c ∈ [z, TI, TO, i1, i2], H' c = none) E hi ⟨hz, hI, hO, ⟨h1, p.isList⟩, ⟨h2, p2⟩⟩ fun v h' tk yv st' ko htk => ?_
    obtain ⟨T, u1, u2, rfl, hT, e1, e2, hTt⟩ := yv
    obtain ⟨hz', hI', hO', h1', h2'⟩ := st'
    obtain ⟨q1, g1, r1⟩ := rv.get hx
    obtain ⟨q2, g2, r2⟩ := rv2.get hy
    have f1 : q1 = u1 := by
      have : its[i]? = some u1 := by simpa using e1
      rw [g1] at this
      exact Option.some.inj this
    have f2 : q2 = u2 := by
      have : its2[i]? = some u2 := by simpa using e2
      rw [g2] at this
      exact Option.some.inj this
    subst f1 f2
    have new : ObjOk X.prog X.w (upd H T (.tup [x, y])) h' T (.tup [x, y]) := ⟨by show 2 ≤ sizeLine; decide, [q1, q2], .cons r1 (.cons r2 .nil), hTt⟩
    have I1 : Inv X pins σ (upd H T (.tup [x, y])) { s with heap := h', toks := tk } := I.turnedNew (t' := tk) (ch := [z, TI, TO, i1, i2]) (fun c o hb q => ko c o (fun m => hb (by
      simp only [List.mem_cons, List.not_mem_nil, or_false] at m ⊢
      rcases m with m | m | m | m
      · exact .inl m
      · exact .inr (.inr (.inl m))
      · exact .inr (.inr (.inr (.inl m)))
      · exact .inr (.inr (.inr (.inr m))))) q) hf hT new
    refine ⟨.ref T, _, I1, rfl, ⟨T, x, y, rfl, I.hok.fresh hT, rfl, fun l hl => by rw [I.list_inj hl hqx]; exact hx, fun l hl => by rw [I.tuple_inj hl hqy]; exact hy⟩, ⟨hz', hI', hO', h1'.1, h2'.1⟩, fun c hcm => ?_⟩
    have hl : c < s.heap.objs.size := by
      obtain ⟨_, _, hO0⟩ := hO
      obtain ⟨_, y1, _⟩ := h1
      obtain ⟨_, y2, _⟩ := h2
      simp only [List.mem_cons, List.not_mem_nil, or_false] at hcm
      rcases hcm with rfl | rfl | rfl | rfl | rfl
      · exact Heap.lt_size hz
      · exact Heap.lt_size hI
      · exact Heap.lt_size hO0
      · exact Heap.lt_size y1
      · exact Heap.lt_size y2
    rw [upd_ne (Nat.ne_of_lt (Nat.lt_of_lt_of_le hl hT))]
    exact (hf c hcm).1
  done := by
    intro X hP hw hK hc i pins s σ H E I hf st hg
    subst hP hw hK
    obtain ⟨hz, hI, hO, h1, h2⟩ := st
    obtain ⟨xs, ys, hqx, hqy, hi⟩ := hg
    obtain ⟨its, rv, p, _⟩ := I.list hqx
    obtain ⟨its2, rv2, p2, _⟩ := I.tuple hqy
    have hh : X.A.in1.handled = none := I.ok.hd hc
    have W := GoesN.zip2 (prog := X.prog) (w := X.w) (A := X.A) (elts := elts) (x1 := kk) (pos := tpos) S (Draws.list hh i1 a na its.toArray) (Draws.tuple hh i2 b nb its2.toArray)
    have hi' : i = min its.toArray.size its2.toArray.size := by rw [hi, rv.length, rv2.length]; rfl
    subst hi'
    refine W.stops s (fun s1 => Inv X pins σ H s1) E ⟨hz, hI, hO, ⟨h1, p.isList⟩, ⟨h2, p2⟩⟩ fun h' tk ko htk => ?_
    exact I.turnedL (t' := tk) (ch := [z, TI, TO, i1, i2]) (fun c o hb q => ko c o (fun m => hb (by
      simp only [List.mem_cons, List.not_mem_nil, or_false] at m ⊢
      rcases m with m | m | m | m
      · exact .inl m
      · exact .inr (.inr (.inl m))
      · exact .inr (.inr (.inr (.inl m)))
      · exact .inr (.inr (.inr (.inr m))))) q) hf
  self := fun A i s Q E st h => wpAny_pyIter_zip st.1 h
def iZipM (K : PySem.W.Frag) (ta : TA) : TI := fun σ H R => ta σ H fun vs H1 => ∃ a b xs ys, vs = [.ref a, .ref b] ∧ SqL K H1 a xs ∧ SqT K H1 b ys ∧ R (ItzM K a b) H1
theorem pi_zipM {X : Cx} {e e2 : Expr} {ta : TA} {p pos tpos : Pos} {elts : List Expr} {kk : Nat} (hg : Gl X "zip") (hm : X.mg "zip" = none) (ha : PA X [e, e2] ta)
    (hs : starEach [e, e2] X.env = (false, eval e X.env) :: starEach [e2] X.env := by rfl) (hpl : (backTo pos (starEach [e2] X.env)).any (·.1) = false := by rfl) :
    PI X (.Tuple elts kk tpos) (.Call (.Name "zip" p) [e, e2] [] pos) (iZipM X.K ta) := by
  refine ⟨fun pins s σ H R I h => Call_ (ld_blt I hg hm PyProof.Rows.boot_zip (PyProof.Rows.callWith_type1 (thn (ha.run pos pins s σ H _ I h) fun us s1 ⟨vs, H1, I1, r1, a, b, xs, ys, ex, hqx, hqy, q⟩ => ?_) hs hpl))⟩
  subst ex
  obtain ⟨u1, u2, rfl, ra, rb⟩ := vals2 r1
  cases ra
  cases rb
  obtain ⟨its, rv, p1, _⟩ := I1.list hqx
  obtain ⟨its2, rv2, p2, _⟩ := I1.tuple hqy
  obtain ⟨o2, ho2, _⟩ := id p2
  have la : a < s1.heap.objs.size := p1.lt
  have lb : b < s1.heap.objs.size := Heap.lt_size ho2
  refine zip_begins2 (begins_list a its.toArray) (begins_tuple b its2.toArray) p1.isList p2 fun h' hz hI hO h1 h2 hsz hk => wpAny_pyIter_zip hz ?_
  have I2 : Inv X pins σ H1 { s1 with heap := h' } := I1.kept (t' := s1.toks) hk
  have S := zm_sep la lb
  refine ⟨s1.heap.objs.size + 4, [s1.heap.objs.size + 4, s1.heap.objs.size + 2, s1.heap.objs.size + 3, s1.heap.objs.size, s1.heap.objs.size + 1], _, _, H1, rfl, I2, zm_turn S (Nat.ne_of_lt la) (Nat.ne_of_lt (Nat.lt_add_right 1 lb)), ⟨hz, hI, ⟨_, _, hO⟩, ⟨_, h1, rfl, rfl⟩, ⟨_, h2, rfl, rfl⟩⟩, fun c hcm => ?_, q⟩
  have hle : s1.heap.objs.size ≤ c := by
    simp only [List.mem_cons, List.not_mem_nil, or_false] at hcm
    rcases hcm with rfl | rfl | rfl | rfl | rfl
    · exact Nat.le_add_right _ _
    · exact Nat.le_add_right _ _
    · exact Nat.le_add_right _ _
    · exact Nat.le_refl _
    · exact Nat.le_add_right _ _
  exact I1.fpOk hle (I1.hok.fresh hle)
/-- a loop over it -/
theorem for_zipM {K : PySem.W.Frag} {a b : Addr} {xs ys : List V} {g : TG} {tb : TS} {D : Ends} {σ : L2.St} {H : Hp} (hl : xs.length = ys.length) (Pv : Nat → L2.St → Hp → Prop) (h0 : Pv 0 σ H) (hq : ∀ i σ H, Pv i σ H → SqL K H a xs ∧ SqT K H b ys)
    (hs : ∀ (i : Nat) (x y : V) (T : Addr) (σ : L2.St) (H : Hp), xs[i]? = some x → ys[i]? = some y → Pv i σ H → H T = none → g (.ref T) σ (upd H T (.tup [x, y])) fun σ2 H2 => tb { D with nx := Pv (i + 1), ct := Pv (i + 1), bk := D.nx } σ2 H2) (hd : ∀ σ H, Pv xs.length σ H → D.nx σ H) :
    ∃ W : Nat → Nat → L2.St → Hp → Prop, (∃ m, W 0 m σ H) ∧ ∀ i m σ H, W i m σ H →
      ((ItzM K a b).stop i H ∧ D.nx σ H) ∨ ((ItzM K a b).go i H ∧ ∃ N : L2.St → Hp → Prop, (∀ σ' H', N σ' H' → ∃ m', m' < m ∧ W (i + 1) m' σ' H') ∧ ∀ v H', (ItzM K a b).yld i H v H' → g v σ H' fun σ2 H2 => tb { D with nx := N, ct := N, bk := D.nx } σ2 H2) := by
  refine ⟨fun i m σ H => (m = xs.length - i ∧ i ≤ xs.length) ∧ Pv i σ H, ⟨xs.length, ⟨rfl, Nat.zero_le _⟩, h0⟩, ?_⟩
  rintro i m σ H ⟨⟨rfl, hi⟩, pv⟩
  obtain ⟨qx, qy⟩ := hq i σ H pv
  rcases Nat.lt_or_ge i xs.length with lt | ge
  · refine .inr ⟨⟨xs, ys, _, _, qx, qy, List.getElem?_eq_getElem lt, List.getElem?_eq_getElem (hl ▸ lt)⟩, Pv (i + 1), fun σ' H' p' => ⟨xs.length - (i + 1), by omega, ⟨rfl, lt⟩, p'⟩, ?_⟩
    rintro v H' ⟨T, x, y, rfl, hT, rfl, f1, f2⟩
    exact hs i x y T σ H (f1 xs qx) (f2 ys qy) pv hT
  · have e : i = xs.length := Nat.le_antisymm hi ge
    subst e
    exact .inl ⟨⟨xs, ys, qx, qy, by rw [← hl, Nat.min_self]⟩, hd σ H pv⟩
theorem call_isiK {X : Cx} {K : PySem.W.Frag} (h : X.K = K) : CallR X (.builtin "isinstance") (rIsi' K) := by
  subst h
  exact call_isi'
end Af

set_option Elab.async false
set_option linter.all false
set_option maxRecDepth 100000
set_option maxHeartbeats 4000000
/-! dicts of number: tuple, made by displays and by comprehensions -/
namespace Af
open PySem PySem.Spec PyProof.Rows L2
theorem pairs_go {σ : L2.St} : ∀ (l : List (Nat × Int)) (H : Hp) (Q : List (V × V) → Hp → Prop), (∀ (rows : List (L2.Key × V)) H', Same H H' → Paired (RowV H') rows (l.map fun p => (p.1, [p.2])) → Q (rows.map fun kv => (kV kv.1, kv.2)) H') → tPairs (l.map fun p => (tC (.int ((p.1 : Nat) : Int)), tTup' (tCons (tC (.int p.2)) tNil))) σ H Q
  | [], H, Q, k => k [] H (Same.refl _) .nil
  | p :: r, H, Q, k => ⟨szr, fun t H1 n s h => pairs_go r H1 _ fun rows H' s2 pr => k ((.inl ((p.1 : Nat) : Int), .ref t) :: rows) H' (s.trans s2) (.cons ⟨rfl, t, rfl, s2 _ _ h⟩ pr)⟩
theorem merge_rows : ∀ (rows acc : List (L2.Key × V)), ((acc ++ rows).map (·.1)).Nodup → mergeK acc rows = acc ++ rows
  | [], acc, _ => (List.append_nil acc).symm
  | p :: r, acc, h => by
    show mergeK (putK acc p.1 p.2) r = _
    have e : acc ++ p :: r = (acc ++ [p]) ++ r := by rw [List.append_assoc]; rfl
    have np : p.1 ∉ acc.map (·.1) := fun m => by
      rw [List.map_append, List.nodup_append] at h
      exact h.2.2 _ m _ (by rw [List.map_cons]; exact List.mem_cons_self) rfl
    rw [putK_snoc np, e]
    rw [e] at h
    exact merge_rows r _ h
theorem disp_pat {σ : L2.St} {H : Hp} {Q : VK} (l : List (Nat × Int)) (nd : ((l.map fun p => (p.1, [p.2])).map fun p => (Sum.inl ((p.1 : Nat) : Int) : L2.Key)).Nodup) (ll : l.length ≤ 15) (k : ∀ d H', Same H H' → H d = none → PatV H' d (l.map fun p => (p.1, [p.2])) → Q (.ref d) H') :
    tDisp (l.map fun p => (tC (.int ((p.1 : Nat) : Int)), tTup' (tCons (tC (.int p.2)) tNil))) σ H Q := fun p n => by
  refine pairs_go l (upd H p (.dK [])) _ fun rows H' s pr => ?_
  have hp : H' p = some (.dK []) := s _ _ upd_same
  have rl : rows.length = l.length := by rw [paired_len pr, List.length_map]
  refine ⟨hp, rows, rfl, by omega, ?_⟩
  have s0 : Same H (upd H' p (.dK (mergeK [] rows))) := fun b o e => by
    have nb : b ≠ p := fun z => by rw [z, n] at e; cases e
    rw [upd_ne nb]
    exact s _ _ (by rw [upd_ne nb]; exact e)
  refine k p _ s0 n ⟨⟨rows, ?_, L2.Paired.mapP pr fun a b ⟨e, t, e2, z⟩ => ⟨e, t, e2, ?_⟩⟩⟩
  · rw [upd_same, merge_rows rows [] (by rw [List.nil_append, rows_keys pr]; exact nd)]
    rfl
  · rw [upd_ne (fun w => by rw [w, hp] at z; cases z)]
    exact z
/-- {**d, k: v, ..} of an empty d -/
theorem spread_pat {σ : L2.St} {H : Hp} {Q : VK} {i : Nat} {d : Addr} {trs : List (TE × TE)} {ps : Ptn} (hi : σ[i]? = some (some (.ref d))) (hd : H d = some (.dK [])) (nd : (ps.map fun p => (Sum.inl ((p.1 : Nat) : Int) : L2.Key)).Nodup) (ll : ps.length ≤ 15)
    (hp : ∀ (H1 : Hp) (R : List (V × V) → Hp → Prop), Same H H1 → (∀ (rows : List (L2.Key × V)) H', Same H1 H' → Paired (RowV H') rows ps → R (rows.map fun kv => (kV kv.1, kv.2)) H') → tPairs trs σ H1 R)
    (k : ∀ p H', Same H H' → H p = none → PatV H' p ps → Q (.ref p) H') : tSpread (tVar i) trs σ H Q := fun p n => by
  have dp : d ≠ p := fun e => by rw [e, n] at hd; cases hd
  refine ⟨.ref d, hi, d, [], rfl, dp, (by rw [upd_ne dp]; exact hd), upd_same, by decide, fun p2 n2 => ?_⟩
  have p2p : p2 ≠ p := fun e => by rw [e, upd_same] at n2; cases n2
  rw [upd_ne p2p] at n2
  have s0 : Same H (upd (upd (upd H p (.dK [])) p (.dK [])) p2 (.dK [])) := same_mut (same_mut (same_new n) n) n2
  have e1 : (upd (upd (upd H p (.dK [])) p (.dK [])) p2 (.dK [])) p = some (.dK []) := by rw [upd_ne p2p.symm, upd_same]
  have e2 : (upd (upd (upd H p (.dK [])) p (.dK [])) p2 (.dK [])) p2 = some (.dK []) := upd_same
  refine hp _ _ s0 fun rows H' s pr => ?_
  have rl := paired_len pr
  have m1 : mergeK [] rows = rows := merge_rows rows [] (by rw [List.nil_append, rows_keys pr]; exact nd)
  refine ⟨s _ _ e1, s _ _ e2, rows, rfl, by omega, ?_⟩
  rw [m1, m1]
  refine k p _ (same_mut (same_mut (s0.trans s) n2) n) n ⟨⟨rows, upd_same, L2.Paired.mapP pr fun a b ⟨e, t, q, z⟩ => ⟨e, t, q, ?_⟩⟩⟩
  rw [upd_ne (fun w => by rw [w, s _ _ e1] at z; cases z), upd_ne (fun w => by rw [w, s _ _ e2] at z; cases z)]
  exact z
/-- a dict comprehension over a list that stays -/
theorem dc_lst {K : PySem.W.Frag} {a : Addr} {xs : List V} {g : TG} {tt : TT} {tk tv : TE} {vs : List Nat} {σ : L2.St} {H1 : Hp} {D : Addr} {Qd : Hp → Prop} (Pv : Nat → Hp → Prop) (h0 : Pv 0 (upd H1 D (.dK []))) (hl : ∀ i H, Pv i H → SqL K H a xs)
    (hs : ∀ i x H, xs[i]? = some x → Pv i H → g x (wipe σ vs) H fun σ2 H2 => wipe σ2 vs = wipe σ vs ∧ tt σ2 H2 fun b H3 =>
      if b = true then tk σ2 H3 fun y H4 => tv σ2 H4 fun z H5 => ∃ kvs k, y = kV k ∧ H5 D = some (.dK kvs) ∧ kvs.length < sizeLine ∧ Pv (i + 1) (upd H5 D (.dK (putK kvs k z))) else Pv (i + 1) H3) (hd : ∀ H, Pv xs.length H → Qd H) :
    ∃ W : Nat → Nat → Hp → Prop, (∃ m, W 0 m (upd H1 D (.dK []))) ∧ ∀ i m H, W i m H →
      ((Itl K a).stop i H ∧ Qd H) ∨ ((Itl K a).go i H ∧ ∃ Nx : Hp → Prop, (∀ H', Nx H' → ∃ m', m' < m ∧ W (i + 1) m' H') ∧ ∀ x H', (Itl K a).yld i H x H' → g x (wipe σ vs) H' fun σ2 H2 => wipe σ2 vs = wipe σ vs ∧ tt σ2 H2 fun b H3 =>
        if b = true then tk σ2 H3 fun y H4 => tv σ2 H4 fun z H5 => ∃ kvs k, y = kV k ∧ H5 D = some (.dK kvs) ∧ kvs.length < sizeLine ∧ Nx (upd H5 D (.dK (putK kvs k z))) else Nx H3) := by
  refine ⟨fun i m H => (m = xs.length - i ∧ i ≤ xs.length) ∧ Pv i H, ⟨xs.length, ⟨rfl, Nat.zero_le _⟩, h0⟩, ?_⟩
  rintro i m H ⟨⟨rfl, hi⟩, pv⟩
  have q := hl i H pv
  rcases Nat.lt_or_ge i xs.length with lt | ge
  · refine .inr ⟨⟨xs, _, q, List.getElem?_eq_getElem lt⟩, Pv (i + 1), fun H' p' => ⟨xs.length - (i + 1), by omega, ⟨rfl, lt⟩, p'⟩, ?_⟩
    rintro x H' ⟨rfl, f⟩
    exact hs i x _ (f xs q) pv
  · have e : i = xs.length := Nat.le_antisymm hi ge
    subst e
    exact .inl ⟨⟨xs, q, Nat.le_refl _⟩, hd H pv⟩
end Af

set_option Elab.async false
set_option linter.all false
set_option maxRecDepth 100000
set_option maxHeartbeats 1000000
namespace Af
open PySem PySem.Spec PyProof.Rows L2
/-! t[::-1], t a tuple -/
theorem pick_rev (l : List Value) : ((List.range l.length).filterMap fun (k : Nat) => l.toArray[(((l.length : Int) - 1) + (k : Int) * (-1)).toNat]?) = l.reverse := by
  have e : ((List.range l.length).filterMap fun (k : Nat) => l.toArray[(((l.length : Int) - 1) + (k : Int) * (-1)).toNat]?) = (List.range l.length).map fun k => l.getD (l.length - 1 - k) .none := by
    have : ∀ m, m ≤ l.length → ((List.range m).filterMap fun (k : Nat) => l.toArray[(((l.length : Int) - 1) + (k : Int) * (-1)).toNat]?) = (List.range m).map fun k => l.getD (l.length - 1 - k) .none := fun m => by
      induction m with
      | zero => intro _; rfl
      | succ m ih =>
        intro h
        rw [List.range_succ, List.filterMap_append, List.map_append, ih (by omega)]
        congr 1
        have i1 : (((l.length : Int) - 1) + (m : Int) * (-1)).toNat = l.length - 1 - m := by omega
        have i2 : l.length - 1 - m < l.length := by omega
        rw [List.filterMap_cons, i1]
        simp only [List.getElem?_toArray, List.getElem?_eq_getElem i2, List.filterMap_nil, List.map_cons, List.map_nil, List.getD_eq_getElem?_getD, Option.getD_some]
    exact this _ (Nat.le_refl _)
  rw [e]
  refine List.ext_getElem (by rw [List.length_map, List.length_range, List.length_reverse]) fun i h1 h2 => ?_
  rw [List.length_map, List.length_range] at h1
  rw [List.getElem_map, List.getElem_range, List.getElem_reverse, List.getD_eq_getElem?_getD, List.getElem?_eq_getElem (show l.length - 1 - i < l.length by omega)]
  rfl
section
variable {prog : Program} {w : World} {A : Around} {E : Value → Shared → Prop} {s : Shared}
theorem sliceApplied_rev {sl : Addr} {n : Nat} {vl vu vs : Value} {Q : Int × Int × Nat → Shared → Prop} (h1 : 1 ≤ n) (hs : s.heap.IsSliceOf sl vl vu vs) (pl : IsPart vl none) (pu : IsPart vu none) (ps : IsPart vs (some (-1)))
    (h : Q ((n : Int) - 1, -1, n) s) : wpAny (model prog w) A (Builtin.Slice.sliceApplied (.ref sl) (pure (n : Int))) Q E s := by
  obtain ⟨os, hos, hcs, hds⟩ := id hs
  unfold Builtin.Slice.sliceApplied Builtin.Slice.sliceFields
  refine wpAny_bind (wpAny_bind (wpAny_field hos hds (x := vl) rfl (wpAny_bind (wpAny_field hos hds (x := vu) rfl (wpAny_bind (wpAny_field hos hds (x := vs) rfl (wpAny_pure ?_)))))))
  refine wpAny_bind (HT.slicePart_ ps ?_)
  show wpAny _ _ (if ((-1 : Int) == 0) = true then _ else _) _ _ s
  rw [if_neg (by decide)]
  refine wpAny_bind (HT.slicePart_ pl (wpAny_bind (HT.slicePart_ pu (wpAny_bind (wpAny_pure ?_)))))
  show wpAny _ _ (match Builtin.Slice.sliceAdjust none none (-1) (n : Int) with | (lo, hi) => pure (lo, (-1 : Int), Builtin.Slice.slicePlaces lo hi (-1))) _ _ s
  rw [show Builtin.Slice.sliceAdjust none none (-1) (n : Int) = ((n : Int) - 1, -1) from rfl]
  show wpAny _ _ (pure (((n : Int) - 1), (-1 : Int), Builtin.Slice.slicePlaces ((n : Int) - 1) (-1) (-1))) _ _ s
  rw [show Builtin.Slice.slicePlaces ((n : Int) - 1) (-1) (-1) = n by
    unfold Builtin.Slice.slicePlaces
    rw [if_neg (by decide), if_pos (by omega)]
    show ((((n : Int) - 1 - -1 - 1) / 1) + 1).toNat = n
    rw [Int.ediv_one]
    omega]
  exact wpAny_pure h
theorem getItem_rev {t sl : Addr} {l : List Value} {vl vu vs : Value} {Q : Value → Shared → Prop} (l1 : 1 ≤ l.length) (lz : l.length ≤ sizeLine) (ht : IsTup s.heap t l.toArray) (hs : s.heap.IsSliceOf sl vl vu vs) (pl : IsPart vl none) (pu : IsPart vu none) (ps : IsPart vs (some (-1)))
    (h : Q (.ref s.heap.objs.size) { s with heap := s.heap.push { cls := .type "tuple", data := .seq l.reverse.toArray } }) : wpAny (model prog w) A (getItem (.ref t) (.ref sl)) Q E s := by
  have htake : sizeOk (.seq l.reverse.toArray) := by
    show l.reverse.toArray.size ≤ sizeLine
    rw [List.size_toArray, List.length_reverse]
    exact lz
  obtain ⟨os, hos, hcs, hds⟩ := id hs
  have hTs : s.TypeIs (.ref sl) "slice" := ⟨os, hos, hcs⟩
  unfold getItem
  try with_reducible refine wpAny_holding ?_
  first | refine wpAny_bind (wpAny_pure ?_) | skip
  refine wpAny_bind (wpAny_sequenceKey ht.typeIs (by decide) ?_)
  refine wpAny_bind (wpAny_callSpecial?_slot (name := Str.ofString "__getitem__") ht.typeIs PyProof.Rows.slot_tuple_getitem
    (wpAny_call_entry PyProof.Rows.slot_tuple_getitem ht.typeIs entry_tuple_getitem ?_ (args_tuple_getitem _ _)))
  show wpAny _ _ (Builtin.Tuple.tupleItemsOf (.ref t) >>= _) _ _ s
  refine wpAny_bind (tupleItemsOf_ ht ?_)
  refine wpAny_bind (wpAny_typeOf hTs ?_)
  rw [if_pos (by decide)]
  refine wpAny_bind (sliceApplied_rev (n := l.length) l1 hs pl pu ps ?_)
  show wpAny _ _ (if (((l.length : Int) - 1) == 0 && (-1 : Int) == 1 && l.length == l.toArray.size) = true then _ else _) _ _ s
  rw [if_neg (by simp)]
  dsimp only
  rw [pick_rev l]
  first
    | exact wpAny_bind (m := Builtin.Tuple.tupleExact _) (wpAny_newObj_type (wpAny_pure ⟨_, rfl, wpAny_pure h⟩) htake)
    | exact wpAny_bind (m := Builtin.Tuple.tupleExact _) (wpAny_newObj_type (wpAny_bind (wpAny_pure (wpAny_pure ⟨_, rfl, wpAny_pure h⟩))) htake)
    | exact wpAny_bind (wpAny_bind (m := Builtin.Tuple.tupleExact _) (wpAny_newObj_type (wpAny_pure (wpAny_pure ⟨_, rfl, wpAny_pure h⟩)) htake))
    | exact wpAny_bind (wpAny_bind (m := Builtin.Tuple.tupleExact _) (wpAny_newObj_type (wpAny_pure ⟨_, rfl, wpAny_pure h⟩) htake))
end
section
variable {X : Cx}
def tRevT (te : TE) : TE := fun σ H Q => te σ H fun x H1 => ∃ a xs, x = .ref a ∧ H1 a = some (.tup xs) ∧ 1 ≤ xs.length ∧ New (.tup xs.reverse) H1 Q
theorem pe_revT {e : Expr} {te : TE} {k : Nat} {p1 p2 p3 pos : Pos} (he : PE X e te) : PE X (.Subscript e (.Slice none none (some (.UnaryOp .USub (.Constant (.int 1) k p1) p2)) p3) pos) (tRevT te) := by
  refine ⟨fun pins s σ H Q I h => ?_⟩
  refine Subscript_ (thn (he.run pins s σ H _ I h) fun v s1 ⟨x, H1, I1, r1, q1⟩ => ?_)
  obtain ⟨a, xs, ex, hx0, xl, q⟩ := q1
  have hx : SqT X.K H1 a xs := SqT.of hx0
  subst ex
  cases r1
  have hst : PO X (some (.UnaryOp .USub (.Constant (.int 1) k p1) p2)) (tPart (tUn (rU fun i => .int (-i)) (tC (.int 1)))) := po_some (pe_un un_neg pe_int)
  refine wpAny_Slice (thn (po_none.run pins s1 σ H1 (fun o H2 => o = none ∧ H2 = H1) I1 ⟨rfl, rfl⟩) fun vl s2 ⟨l, H2, I2, pl, el, e2⟩ => ?_)
  subst el e2
  refine thn (po_none.run pins s2 σ H2 (fun o H3 => o = none ∧ H3 = H2) I2 ⟨rfl, rfl⟩) fun vu s3 ⟨u, H3, I3, pu, eu, e3⟩ => ?_
  subst eu e3
  refine thn (hst.run pins s3 σ H3 (fun o H4 => o = some (-1) ∧ H4 = H3) I3 ⟨1, rfl, -1, rfl, rfl, rfl⟩) fun vs s4 ⟨o, H4, I4, ps, eo, e4⟩ => ?_
  subst eo e4
  have I5 : Inv X pins σ H4 { s4 with heap := s4.heap.push { cls := .type "slice", data := .fields #[vl, vu, vs] } } := I4.kept (t' := s4.toks) fun b ob q => Heap.get?_push_of_some _ q
  obtain ⟨its, r, ht, hz⟩ := I5.tuple hx
  have hlen := r.length
  show wpAny (model X.prog X.w) X.A (subscriptTail e (.Slice none none (some (.UnaryOp .USub (.Constant (.int 1) k p1) p2)) p3) (.ref a) (.ref s4.heap.objs.size)) (EP X pins σ Q) X.xe { s4 with heap := s4.heap.push { cls := .type "slice", data := .fields #[vl, vu, vs] } }
  refine tail_any (ops := [.ref a, .ref s4.heap.objs.size]) ht.typeIs (PyProof.Rows.slot_tuple_getitem.lookup) ?_ (by with_unfolding_all rfl)
  refine getItem_rev (l := its) (by omega) (by omega) ht (Heap.IsSliceOf.new _ vl vu vs) pl pu ps ?_
  refine ⟨.ref _, _, I5.laid (t' := s4.toks) (o := .tup xs.reverse) (fun b ob q => Heap.get?_push_of_some _ q) (Nat.le_refl _) ?_, rfl, q.mk _ (I5.hok.fresh (Nat.le_refl _))⟩
  exact ⟨by rw [List.length_reverse]; exact hz, its.reverse, r.reverse, IsTup.new _ _⟩
end
end Af

set_option Elab.async false
set_option linter.all false
set_option maxRecDepth 100000
set_option maxHeartbeats 4000000
namespace Af
open PySem PySem.Spec PyProof.Rows L2
/-! what expressions make, told as data: nothing that stood is changed, what is made is told without the list at p -/
/-- a heap without the list at p and what S names -/
def gh (S : List Addr) (p : Addr) (H : Hp) : Hp := fun a => if a ∈ S then none else hd p H a
theorem gh_at {S : List Addr} {p a : Addr} {H : Hp} {o : HO} (n : a ≠ p) (m : a ∉ S) (h : H a = some o) : gh S p H a = some o := by
  unfold gh
  rw [if_neg m, hd_ne n]
  exact h
theorem gh_hd {S : List Addr} {p : Addr} {H : Hp} : Same (gh S p H) (hd p H) := fun a o e => by
  unfold gh at e
  by_cases m : a ∈ S
  · rw [if_pos m] at e
    cases e
  · rw [if_neg m] at e
    exact e
theorem gh_in {S : List Addr} {p : Addr} {H : Hp} : Same (gh S p H) H := fun a o e => hd_in a o (gh_hd a o e)
theorem gh_same {S : List Addr} {p : Addr} {H H' : Hp} (s : Same H H') : Same (gh S p H) (gh S p H') := fun a o e => by
  unfold gh at e ⊢
  by_cases m : a ∈ S
  · rw [if_pos m] at e
    cases e
  · rw [if_neg m] at e ⊢
    exact hd_same s a o e
/-- named, and not what stood at first -/
def Hid (S : List Addr) (H0 H : Hp) : Prop := ∀ a ∈ S, H0 a = none ∧ ∃ o, H a = some o ∧ ∀ xs, o ≠ .tup xs
theorem Hid.same {S : List Addr} {H0 H H' : Hp} (h : Hid S H0 H) (s : Same H H') : Hid S H0 H' := fun a m => by
  obtain ⟨h1, r, h2, h3⟩ := h a m
  exact ⟨h1, r, s _ _ h2, h3⟩
theorem Hid.new {S : List Addr} {H0 H : Hp} {a : Addr} (h : Hid S H0 H) (n : H a = none) : a ∉ S := fun m => by
  obtain ⟨_, r, h2, _⟩ := h a m
  rw [n] at h2
  cases h2
theorem gh_atT {S : List Addr} {p a : Addr} {H0 H : Hp} {xs : List V} (P : ∃ l, H p = some (.lst l)) (I : Hid S H0 H) (h : H a = some (.tup xs)) : gh S p H a = some (.tup xs) := by
  refine gh_at (fun e => ?_) (fun m => ?_) h
  · obtain ⟨l, hl⟩ := P
    rw [e, hl] at h
    cases h
  · obtain ⟨_, r, h2, h3⟩ := I a m
    rw [h] at h2
    exact h3 _ (Option.some.inj h2).symm
theorem gh_hd2 {l p : Addr} {H : Hp} : gh [l] p H = hd2 p l H := by
  funext a
  unfold gh hd2
  by_cases h : a = l <;> by_cases h2 : a = p <;> simp [hd, h, h2]
/-- a list that is appended to is hidden too -/
theorem hid_lst {l : Addr} {H : Hp} {xs : List V} (h : H l = some (.lst xs)) : Hid [l] (hd l H) H := fun a m => by
  rw [List.mem_singleton.mp m]
  exact ⟨if_pos rfl, _, h, fun _ e => by cases e⟩
def Ev (K : PySem.W.Frag) (p : Addr) (H0 : Hp) (σ : L2.St) (te : TE) (d : PyData) : Prop := ∀ (S : List Addr) (H : Hp) (Q : VK), Hid S H0 H → Same H0 H → (∀ v H', Same H H' → Dx K (gh S p H') v d → Q v H') → te σ H Q
def Evs (K : PySem.W.Frag) (p : Addr) (H0 : Hp) (σ : L2.St) (t : TA) (ds : List PyData) : Prop := ∀ (S : List Addr) (H : Hp) (Q : List V → Hp → Prop), Hid S H0 H → Same H0 H → (∀ vs H', Same H H' → DxAll K (gh S p H') vs ds → Q vs H') → t σ H Q
def IsL (p : Addr) (H0 : Hp) : Prop := ∃ l, H0 p = some (.lst l)
theorem IsL.same {p : Addr} {H H' : Hp} (h : IsL p H) (s : Same H H') : IsL p H' := by
  obtain ⟨l, h⟩ := h
  exact ⟨l, s _ _ h⟩
theorem IsL.ne {p a : Addr} {H : Hp} (h : IsL p H) (n : H a = none) : a ≠ p := fun e => by
  obtain ⟨l, h⟩ := h
  rw [e, h] at n
  cases n
theorem IsL.nt {p a : Addr} {H : Hp} {xs : List V} (h : IsL p H) (n : H a = some (.tup xs)) : a ≠ p := fun e => by
  obtain ⟨l, h⟩ := h
  rw [e, h] at n
  cases n
def cutD (ds : List PyData) (lo hi : Option Int) : List PyData := (ds.drop (HT.sIx ds.length 0 lo)).take (HT.sIx ds.length ds.length hi - HT.sIx ds.length 0 lo)
/-- a bound of a slice -/
def Evo (H0 : Hp) (σ : L2.St) (t : TO) (o : Option Int) : Prop := ∀ (S : List Addr) (H : Hp) (Q : Option Int → Hp → Prop), Hid S H0 H → Same H0 H → (∀ H', Same H H' → Q o H') → t σ H Q
section
variable {K : PySem.W.Frag} {p : Addr} {H0 : Hp} {σ : L2.St}
theorem DxAll.take {H : Hp} : ∀ {xs : List V} {ds : List PyData} (n : Nat), DxAll K H xs ds → DxAll K H (xs.take n) (ds.take n)
  | _, _, 0, _ => by rw [List.take_zero, List.take_zero]; exact .nil
  | _, _, n + 1, .nil => .nil
  | _, _, n + 1, .cons r t => .cons r (t.take n)
theorem DxAll.drop {H : Hp} : ∀ {xs : List V} {ds : List PyData} (n : Nat), DxAll K H xs ds → DxAll K H (xs.drop n) (ds.drop n)
  | _, _, 0, h => h
  | _, _, n + 1, .nil => .nil
  | _, _, n + 1, .cons r t => t.drop n
theorem DxAll.rev {H : Hp} : ∀ {xs : List V} {ds : List PyData}, DxAll K H xs ds → DxAll K H xs.reverse ds.reverse
  | _, _, .nil => .nil
  | _, _, .cons r t => by rw [List.reverse_cons, List.reverse_cons]; exact t.rev.app (.cons r .nil)
theorem DxAll.cut {H : Hp} {xs : List V} {ds : List PyData} (h : DxAll K H xs ds) (lo hi : Option Int) : DxAll K H (cutV xs lo hi) (cutD ds lo hi) := by
  unfold cutV cutD
  rw [h.len]
  exact (h.drop _).take _
theorem Ev.run {te : TE} {d : PyData} {H : Hp} {Q : VK} (e : Ev K p H0 σ te d) (s : Same H0 H) (k : ∀ v H', Same H H' → Dx K (hd p H') v d → Q v H') : te σ H Q := e [] H Q (fun a m => by cases m) s fun v H' s' q => k v H' s' (Dx.same gh_hd q)
theorem Ev.go {S : List Addr} {te : TE} {d : PyData} {H : Hp} {Q : VK} (e : Ev K p H0 σ te d) (i : Hid S H0 H) (s : Same H0 H) (k : ∀ v H', Same H H' → Dx K (gh S p H') v d → Q v H') : te σ H Q := e S H Q i s k
theorem Evs.run {t : TA} {ds : List PyData} {H : Hp} {Q : List V → Hp → Prop} (e : Evs K p H0 σ t ds) (s : Same H0 H) (k : ∀ vs H', Same H H' → DxAll K (hd p H') vs ds → Q vs H') : t σ H Q := e [] H Q (fun a m => by cases m) s fun v H' s' q => k v H' s' (DxAll.same gh_hd q)
theorem Evs.go {S : List Addr} {t : TA} {ds : List PyData} {H : Hp} {Q : List V → Hp → Prop} (e : Evs K p H0 σ t ds) (i : Hid S H0 H) (s : Same H0 H) (k : ∀ vs H', Same H H' → DxAll K (gh S p H') vs ds → Q vs H') : t σ H Q := e S H Q i s k
theorem ev_var {i : Nat} {v : V} {d : PyData} (hi : σ[i]? = some (some v)) (h : Dx K (hd p H0) v d) : Ev K p H0 σ (tVar i) d := fun S H Q I s k => ⟨v, hi, k v H (Same.refl _) (Dx.same (fun a o e => by
  have e0 := hd_in _ _ e
  have np : a ≠ p := fun z => by rw [z, show hd p H0 p = none from if_pos rfl] at e; cases e
  exact gh_at np (fun m => by rw [(I a m).1] at e0; cases e0) (s _ _ e0)) h)⟩
theorem ev_int {z : Int} : Ev K p H0 σ (tC (.int z)) (.int z) := fun S H Q I s k => k _ H (Same.refl _) (.int z)
theorem ev_str {z : Str} : Ev K p H0 σ (tC (.str z)) (.str z) := fun S H Q I s k => k _ H (Same.refl _) (.str z)
theorem ev_bl {z : Bool} : Ev K p H0 σ (tC (.bl z)) (.bool z) := fun S H Q I s k => k _ H (Same.refl _) (.bl z)
theorem ev_non : Ev K p H0 σ (tC .non) .none := fun S H Q I s k => k _ H (Same.refl _) .non
theorem evs_nil : Evs K p H0 σ tNil [] := fun S H Q I s k => k _ H (Same.refl _) .nil
theorem evs_cons {te : TE} {t : TA} {d : PyData} {ds : List PyData} (h : Ev K p H0 σ te d) (hs : Evs K p H0 σ t ds) : Evs K p H0 σ (tCons te t) (d :: ds) := fun S H Q I s k =>
  h.go I s fun v H1 s1 q1 => hs.go (I.same s1) (s.trans s1) fun vs H2 s2 q2 => k _ H2 (s1.trans s2) (.cons (Dx.same (gh_same s2) q1) q2)
theorem ev_tup {t : TA} {ds : List PyData} (P : IsL p H0) (h : Evs K p H0 σ t ds) (l : ds.length ≤ 100000) : Ev K p H0 σ (tTup' t) (.tuple ds) := fun S H Q I s k =>
  h.go I s fun vs H1 s1 q1 => ⟨sz (by rw [q1.len]; exact l), fun a H2 n s2 h2 => k _ H2 (s1.trans s2) (.tup (gh_at ((P.same (s.trans s1)).ne n) (((I.same s1)).new n) h2) (DxAll.same (gh_same s2) q1))⟩
theorem ev_lst {t : TA} {ds : List PyData} (P : IsL p H0) (h : Evs K p H0 σ t ds) (l : ds.length ≤ 100000) : Ev K p H0 σ (tLst' t) (.list ds) := fun S H Q I s k =>
  h.go I s fun vs H1 s1 q1 => ⟨sz (by rw [q1.len]; exact l), fun a H2 n s2 h2 => k _ H2 (s1.trans s2) (.lst (gh_at ((P.same (s.trans s1)).ne n) (((I.same s1)).new n) h2) (DxAll.same (gh_same s2) q1))⟩
theorem dx_lst {S : List Addr} {G : Hp} {v : V} {ds : List PyData} (h : Dx K (gh S p G) v (.list ds)) : ∃ a xs, v = .ref a ∧ G a = some (.lst xs) ∧ DxAll K (gh S p G) xs ds ∧ gh S p G a = some (.lst xs) := by
  cases h with
  | lst e t => exact ⟨_, _, rfl, gh_in _ _ e, t, e⟩
theorem dx_tupG {S : List Addr} {G : Hp} {v : V} {ds : List PyData} (h : Dx K (gh S p G) v (.tuple ds)) : ∃ a xs, v = .ref a ∧ G a = some (.tup xs) ∧ DxAll K (gh S p G) xs ds ∧ gh S p G a = some (.tup xs) := by
  cases h with
  | tup e t => exact ⟨_, _, rfl, gh_in _ _ e, t, e⟩
theorem ev_cat {ta tb : TE} {xs ys : List PyData} (P : IsL p H0) (ha : Ev K p H0 σ ta (.list xs)) (hb : Ev K p H0 σ tb (.list ys)) (l : xs.length + ys.length ≤ 100000) : Ev K p H0 σ (tOp rCat' ta tb) (.list (xs ++ ys)) := fun S H Q I s k =>
  ha.go I s fun v H1 s1 q1 => hb.go (I.same s1) (s.trans s1) fun u H2 s2 q2 => by
    obtain ⟨a, vs, rfl, h1, t1, g1⟩ := dx_lst q1
    obtain ⟨b, us, rfl, h2, t2, g2⟩ := dx_lst q2
    refine ⟨a, b, vs, us, rfl, rfl, s2 _ _ h1, h2, sz (by rw [t1.len, t2.len]; exact l), fun c H3 n s3 h3 => ?_⟩
    exact k _ H3 (s1.trans (s2.trans s3)) (.lst (gh_at ((P.same (s.trans (s1.trans s2))).ne n) (((I.same (s1.trans s2))).new n) h3) ((DxAll.same (gh_same (s2.trans s3)) t1).app (DxAll.same (gh_same s3) t2)))
theorem ev_catT {ta tb : TE} {xs ys : List PyData} (P : IsL p H0) (ha : Ev K p H0 σ ta (.tuple xs)) (hb : Ev K p H0 σ tb (.tuple ys)) (l : xs.length + ys.length ≤ 100000) : Ev K p H0 σ (tOp rCatT' ta tb) (.tuple (xs ++ ys)) := fun S H Q I s k =>
  ha.go I s fun v H1 s1 q1 => hb.go (I.same s1) (s.trans s1) fun u H2 s2 q2 => by
    obtain ⟨a, vs, rfl, h1, t1, g1⟩ := dx_tupG q1
    obtain ⟨b, us, rfl, h2, t2, g2⟩ := dx_tupG q2
    refine ⟨a, b, vs, us, rfl, rfl, s2 _ _ h1, h2, sz (by rw [t1.len, t2.len]; exact l), fun c H3 s3 h3 => ?_⟩
    exact k _ H3 (s1.trans (s2.trans s3)) (.tup (gh_atT (P.same (s.trans (s1.trans (s2.trans s3)))) (I.same (s1.trans (s2.trans s3))) h3) ((DxAll.same (gh_same (s2.trans s3)) t1).app (DxAll.same (gh_same s3) t2)))
theorem ev_rep {ta tb : TE} {xs : List PyData} {n : Int} (P : IsL p H0) (ha : Ev K p H0 σ ta (.list xs)) (hb : Ev K p H0 σ tb (.int n)) (n0 : 0 ≤ n) (n1 : n ≤ 1000) (l : xs.length * n.toNat ≤ 100000) : Ev K p H0 σ (tOp rRep' ta tb) (.list (List.replicate n.toNat xs).flatten) := fun S H Q I s k =>
  ha.go I s fun v H1 s1 q1 => hb.go (I.same s1) (s.trans s1) fun u H2 s2 q2 => by
    obtain ⟨a, vs, rfl, h1, t1, g1⟩ := dx_lst q1
    cases q2
    refine ⟨a, n, vs, rfl, rfl, s2 _ _ h1, n0, n1, sz (by rw [t1.len]; exact l), fun c H3 m s3 h3 => ?_⟩
    refine k _ H3 (s1.trans (s2.trans s3)) (.lst (gh_at ((P.same (s.trans (s1.trans s2))).ne m) (((I.same (s1.trans s2))).new m) h3) ?_)
    have t := DxAll.same (gh_same (s2.trans s3)) t1
    clear h3
    generalize n.toNat = m
    induction m with
    | zero => exact .nil
    | succ m ih => exact t.app ih
theorem ev_repT {ta tb : TE} {xs : List PyData} {n : Int} (P : IsL p H0) (ha : Ev K p H0 σ ta (.tuple xs)) (hb : Ev K p H0 σ tb (.int n)) (ne : xs ≠ []) (n0 : 0 ≤ n) (n1 : n ≤ 1000) (l : xs.length ≤ 1000) : Ev K p H0 σ (tOp rRepT' ta tb) (.tuple (List.replicate n.toNat xs).flatten) := fun S H Q I s k =>
  ha.go I s fun v H1 s1 q1 => hb.go (I.same s1) (s.trans s1) fun u H2 s2 q2 => by
    obtain ⟨a, vs, rfl, h1, t1, g1⟩ := dx_tupG q1
    cases q2
    have vn : vs ≠ [] := fun z => by
      have := t1.len
      rw [z] at this
      exact ne (List.eq_nil_of_length_eq_zero this.symm)
    refine ⟨a, n, vs, rfl, rfl, s2 _ _ h1, vn, n0, n1, by rw [t1.len]; exact l, fun c H3 s3 h3 => ?_⟩
    refine k _ H3 (s1.trans (s2.trans s3)) (.tup (gh_atT (P.same (s.trans (s1.trans (s2.trans s3)))) (I.same (s1.trans (s2.trans s3))) h3) ?_)
    have t := DxAll.same (gh_same (s2.trans s3)) t1
    clear h3
    generalize n.toNat = m
    induction m with
    | zero => exact .nil
    | succ m ih => exact t.app ih
theorem evo_none : Evo H0 σ tNoPart none := fun S H Q I s k => k H (Same.refl _)
theorem evo_some {te : TE} {i : Int} (h : Ev K p H0 σ te (.int i)) : Evo H0 σ (tPart te) (some i) := fun S H Q I s k =>
  h.go I s fun v H1 s1 q1 => by
    cases q1
    exact ⟨i, rfl, k H1 s1⟩
theorem ev_slL {te : TE} {tl th : TO} {xs : List PyData} {lo hi : Option Int} (P : IsL p H0) (h : Ev K p H0 σ te (.list xs)) (hl : Evo H0 σ tl lo) (hh : Evo H0 σ th hi) : Ev K p H0 σ (tSl rSlL' te tl th) (.list (cutD xs lo hi)) := fun S H Q I s k =>
  h.go I s fun v H1 s1 q1 => hl S H1 _ (I.same s1) (s.trans s1) fun H2 s2 => hh S H2 _ (I.same (s1.trans s2)) (s.trans (s1.trans s2)) fun H3 s3 => by
    obtain ⟨a, vs, rfl, h1, t1, g1⟩ := dx_lst q1
    refine ⟨a, vs, rfl, s3 _ _ (s2 _ _ h1), fun c H4 n s4 h4 => ?_⟩
    exact k _ H4 (s1.trans (s2.trans (s3.trans s4))) (.lst (gh_at ((P.same (s.trans (s1.trans (s2.trans s3)))).ne n) (((I.same (s1.trans (s2.trans s3)))).new n) h4) (DxAll.same (gh_same (s2.trans (s3.trans s4))) (t1.cut lo hi)))
theorem ev_slT {te : TE} {tl th : TO} {xs : List PyData} {lo hi : Option Int} (P : IsL p H0) (h : Ev K p H0 σ te (.tuple xs)) (hl : Evo H0 σ tl lo) (hh : Evo H0 σ th hi) : Ev K p H0 σ (tSl rSlT' te tl th) (.tuple (cutD xs lo hi)) := fun S H Q I s k =>
  h.go I s fun v H1 s1 q1 => hl S H1 _ (I.same s1) (s.trans s1) fun H2 s2 => hh S H2 _ (I.same (s1.trans s2)) (s.trans (s1.trans s2)) fun H3 s3 => by
    obtain ⟨a, vs, rfl, h1, t1, g1⟩ := dx_tupG q1
    refine ⟨a, vs, rfl, s3 _ _ (s2 _ _ h1), fun c H4 s4 h4 => ?_⟩
    exact k _ H4 (s1.trans (s2.trans (s3.trans s4))) (.tup (gh_atT (P.same (s.trans (s1.trans (s2.trans (s3.trans s4))))) (I.same (s1.trans (s2.trans (s3.trans s4)))) h4) (DxAll.same (gh_same (s2.trans (s3.trans s4))) (t1.cut lo hi)))
theorem ev_rev {te : TE} {xs : List PyData} (P : IsL p H0) (h : Ev K p H0 σ te (.list xs)) : Ev K p H0 σ (tRev' te) (.list xs.reverse) := fun S H Q I s k =>
  h.go I s fun v H1 s1 q1 => by
    obtain ⟨a, vs, rfl, h1, t1, g1⟩ := dx_lst q1
    exact ⟨a, vs, rfl, h1, fun c H2 n s2 h2 => k _ H2 (s1.trans s2) (.lst (gh_at ((P.same (s.trans s1)).ne n) (((I.same s1)).new n) h2) (DxAll.same (gh_same s2) t1.rev))⟩
theorem ev_revT {te : TE} {xs : List PyData} (P : IsL p H0) (h : Ev K p H0 σ te (.tuple xs)) (l : 1 ≤ xs.length) : Ev K p H0 σ (tRevT te) (.tuple xs.reverse) := fun S H Q I s k =>
  h.go I s fun v H1 s1 q1 => by
    obtain ⟨a, vs, rfl, h1, t1, g1⟩ := dx_tupG q1
    exact ⟨a, vs, rfl, h1, by rw [t1.len]; exact l, fun c H2 n s2 h2 => k _ H2 (s1.trans s2) (.tup (gh_at ((P.same (s.trans s1)).ne n) (((I.same s1)).new n) h2) (DxAll.same (gh_same s2) t1.rev))⟩
theorem ev_tupL {te : TE} {xs : List PyData} (P : IsL p H0) (h : Ev K p H0 σ te (.list xs)) : Ev K p H0 σ (tCB rTuple' (tCons te tNil)) (.tuple xs) := fun S H Q I s k =>
  h.go I s fun v H1 s1 q1 => by
    obtain ⟨a, vs, rfl, h1, t1, g1⟩ := dx_lst q1
    exact ⟨a, vs, rfl, .inl h1, fun c H2 s2 h2 => k _ H2 (s1.trans s2) (.tup (gh_atT (P.same (s.trans (s1.trans s2))) (I.same (s1.trans s2)) h2) (DxAll.same (gh_same s2) t1))⟩
theorem ev_tupT {te : TE} {xs : List PyData} (P : IsL p H0) (h : Ev K p H0 σ te (.tuple xs)) : Ev K p H0 σ (tCB rTuple' (tCons te tNil)) (.tuple xs) := fun S H Q I s k =>
  h.go I s fun v H1 s1 q1 => by
    obtain ⟨a, vs, rfl, h1, t1, g1⟩ := dx_tupG q1
    exact ⟨a, vs, rfl, .inr h1, fun c H2 s2 h2 => k _ H2 (s1.trans s2) (.tup (gh_atT (P.same (s.trans (s1.trans s2))) (I.same (s1.trans s2)) h2) (DxAll.same (gh_same s2) t1))⟩
theorem ev_lstL {te : TE} {xs : List PyData} (P : IsL p H0) (h : Ev K p H0 σ te (.list xs)) : Ev K p H0 σ (tCB rList' (tCons te tNil)) (.list xs) := fun S H Q I s k =>
  h.go I s fun v H1 s1 q1 => by
    obtain ⟨a, vs, rfl, h1, t1, g1⟩ := dx_lst q1
    exact ⟨a, vs, rfl, .inl h1, fun c H2 n s2 h2 => k _ H2 (s1.trans s2) (.lst (gh_at ((P.same (s.trans s1)).ne n) (((I.same s1)).new n) h2) (DxAll.same (gh_same s2) t1))⟩
theorem ev_lstT {te : TE} {xs : List PyData} (P : IsL p H0) (h : Ev K p H0 σ te (.tuple xs)) : Ev K p H0 σ (tCB rList' (tCons te tNil)) (.list xs) := fun S H Q I s k =>
  h.go I s fun v H1 s1 q1 => by
    obtain ⟨a, vs, rfl, h1, t1, g1⟩ := dx_tupG q1
    exact ⟨a, vs, rfl, .inr h1, fun c H2 n s2 h2 => k _ H2 (s1.trans s2) (.lst (gh_at ((P.same (s.trans s1)).ne n) (((I.same s1)).new n) h2) (DxAll.same (gh_same s2) t1))⟩
theorem ev_neg {i : Int} {te : TE} (h : Ev K p H0 σ te (.int i)) : Ev K p H0 σ (tUn (rU fun i => .int (-i)) te) (.int (-i)) := fun S H Q I s k =>
  h.go I s fun v H1 s1 q1 => by
    cases q1
    exact ⟨i, rfl, k _ H1 s1 (.int _)⟩
theorem ev_I0 {f : Int → Int → V} {g : Int → Int → PyData} {i j : Int} {ta tb : TE} (hf : ∀ H, Dx K H (f i j) (g i j)) (ha : Ev K p H0 σ ta (.int i)) (hb : Ev K p H0 σ tb (.int j)) : Ev K p H0 σ (tOp (rI0 f) ta tb) (g i j) := fun S H Q I s k =>
  ha.go I s fun v H1 s1 q1 => hb.go (I.same s1) (s.trans s1) fun u H2 s2 q2 => by
    cases q1
    cases q2
    exact ⟨i, j, rfl, rfl, k _ H2 (s1.trans s2) (hf _)⟩
theorem ev_add {i j : Int} {ta tb : TE} (ha : Ev K p H0 σ ta (.int i)) (hb : Ev K p H0 σ tb (.int j)) : Ev K p H0 σ (tOp (rI0 fun i j => .int (i + j)) ta tb) (.int (i + j)) := ev_I0 (g := fun i j => .int (i + j)) (fun _ => .int _) ha hb
theorem ev_sub {i j : Int} {ta tb : TE} (ha : Ev K p H0 σ ta (.int i)) (hb : Ev K p H0 σ tb (.int j)) : Ev K p H0 σ (tOp (rI0 fun i j => .int (i - j)) ta tb) (.int (i - j)) := ev_I0 (g := fun i j => .int (i - j)) (fun _ => .int _) ha hb
theorem ev_mul {i j : Int} {ta tb : TE} (ha : Ev K p H0 σ ta (.int i)) (hb : Ev K p H0 σ tb (.int j)) (c : CMul i j) : Ev K p H0 σ (tOp (rI CMul fun i j => .int (i * j)) ta tb) (.int (i * j)) := fun S H Q I s k =>
  ha.go I s fun v H1 s1 q1 => hb.go (I.same s1) (s.trans s1) fun u H2 s2 q2 => by
    cases q1
    cases q2
    exact ⟨i, j, rfl, rfl, c, k _ H2 (s1.trans s2) (.int _)⟩
theorem ev_pow {i j : Int} {ta tb : TE} (ha : Ev K p H0 σ ta (.int i)) (hb : Ev K p H0 σ tb (.int j)) (c : CPow i j) : Ev K p H0 σ (tOp (rI CPow fun i j => .int (i ^ j.toNat)) ta tb) (.int (i ^ j.toNat)) := fun S H Q I s k =>
  ha.go I s fun v H1 s1 q1 => hb.go (I.same s1) (s.trans s1) fun u H2 s2 q2 => by
    cases q1
    cases q2
    exact ⟨i, j, rfl, rfl, c, k _ H2 (s1.trans s2) (.int _)⟩
theorem ev_eqI {i j : Int} {ta tb : TE} (ha : Ev K p H0 σ ta (.int i)) (hb : Ev K p H0 σ tb (.int j)) : Ev K p H0 σ (tOp rEq ta tb) (.bool (decide (V.int i = V.int j))) := fun S H Q I s k =>
  ha.go I s fun v H1 s1 q1 => hb.go (I.same s1) (s.trans s1) fun u H2 s2 q2 => by
    cases q1
    cases q2
    exact ⟨rfl, k _ H2 (s1.trans s2) (.bl _)⟩
theorem ev_strI {i : Int} {te : TE} (h : Ev K p H0 σ te (.int i)) (c : i.natAbs.log2 < 1920) : Ev K p H0 σ (tCB (fun xs H Q => ∃ i : Int, xs = [.int i] ∧ i.natAbs.log2 < 1920 ∧ Q (.str (toString i)) H) (tCons te tNil)) (.str (toString i)) := fun S H Q I s k =>
  h.go I s fun v H1 s1 q1 => by
    cases q1
    exact ⟨i, rfl, c, k _ H1 s1 (.str _)⟩
theorem ev_lenT {te : TE} {xs : List PyData} (h : Ev K p H0 σ te (.tuple xs)) : Ev K p H0 σ (tCB rLen' (tCons te tNil)) (.int (xs.length : Nat)) := fun S H Q I s k =>
  h.go I s fun v H1 s1 q1 => by
    obtain ⟨a, vs, rfl, h1, t1, g1⟩ := dx_tupG q1
    refine ⟨a, vs, rfl, .inr h1, ?_⟩
    rw [t1.len]
    exact k _ H1 s1 (.int _)
theorem ev_len {te : TE} {xs : List PyData} (h : Ev K p H0 σ te (.list xs)) : Ev K p H0 σ (tCB rLen' (tCons te tNil)) (.int (xs.length : Nat)) := fun S H Q I s k =>
  h.go I s fun v H1 s1 q1 => by
    obtain ⟨a, vs, rfl, h1, t1, g1⟩ := dx_lst q1
    refine ⟨a, vs, rfl, .inl h1, ?_⟩
    rw [t1.len]
    exact k _ H1 s1 (.int _)
theorem ev_dnew (P : IsL p H0) : Ev K p H0 σ tDNewK (.dict []) := fun S H Q I s k a n => k _ _ (same_new n) (.dic (gh_at ((P.same s).ne n) (I.new n) upd_same) .nil)
/-- a dict of one number or text -/
theorem ev_disp1 {tk tv : TE} {k0 : L2.Key} {d : PyData} (P : IsL p H0) (hk : Ev K p H0 σ tk (keyD k0)) (hv : Ev K p H0 σ tv d) : Ev K p H0 σ (tDisp [(tk, tv)]) (.dict [(keyD k0, d)]) := fun S H Q I s k a n => by
  have s0 := same_new (o := .dK []) n
  have na := (P.same s).ne n
  have n0 : H0 a = none := s.free n
  have I1 : Hid (a :: S) H0 (upd H a (.dK [])) := fun b m => by
    rcases List.mem_cons.mp m with rfl | m
    · exact ⟨n0, _, upd_same, fun _ e => by cases e⟩
    · exact (I.same s0) b m
  refine hk.go I1 (s.trans s0) fun x H1 s1 q1 => hv.go (I1.same s1) (s.trans (s0.trans s1)) fun y H2 s2 q2 => ?_
  have ha : H2 a = some (.dK []) := s2 _ _ (s1 _ _ upd_same)
  have ex : x = kV k0 := by
    cases k0 with
    | inl i => cases q1; rfl
    | inr z => cases q1; rfl
  subst ex
  refine ⟨ha, [(k0, y)], rfl, by simp, ?_⟩
  have s3 : Same H (upd H2 a (.dK (mergeK [] [(k0, y)]))) := fun b o e => by
    rw [upd_ne (fun z => by rw [z, n] at e; cases e)]
    exact s2 _ _ (s1 _ _ (s0 _ _ e))
  refine k _ _ s3 (.dic (gh_at na (I.new n) upd_same) ?_)
  refine .cons (k := k0) (Dx.same (fun b o e => ?_) q2) .nil
  have eb := gh_in _ _ e
  have nb : b ≠ a := fun z => by
    unfold gh at e
    rw [z, if_pos List.mem_cons_self] at e
    cases e
  have mb : b ∉ S := fun m => by
    unfold gh at e
    rw [if_pos (List.mem_cons_of_mem _ m)] at e
    cases e
  have pb : b ≠ p := fun z => by
    have e2 := gh_hd _ _ e
    rw [z, show hd p H2 p = none from if_pos rfl] at e2
    cases e2
  exact gh_at pb mb (by rw [upd_ne nb]; exact eb)
end
end Af

set_option Elab.async false
set_option linter.all false
set_option maxRecDepth 100000
namespace Af
open PySem PySem.Spec PyProof.Rows L2
/-! xs.count(True); isinstance of an error that is held, of whatever class -/
def rCntT (K : PySem.W.Frag) : V → List V → Hp → VK → Prop := fun x xs H Q => ∃ (p : Addr) (bs : List Bool), x = .ref p ∧ xs = [.bl true] ∧ SqL K H p (bs.map V.bl) ∧ Q (.int ((bs.count true : Nat) : Int)) H
theorem dp_bools {K : PySem.W.Frag} {H : Hp} : ∀ bs : List Bool, DpAll K H (bs.map V.bl) (bs.map PyData.bool)
  | [] => .nil
  | b :: bs => .cons (.bl b) (dp_bools bs)
theorem lay_bools : ∀ bs : List Bool, PyData.canLayAll0 (bs.map PyData.bool) = true
  | [] => rfl
  | b :: bs => by
    show (PyData.canLay0 (.bool b) && PyData.canLayAll0 (bs.map PyData.bool)) = true
    rw [lay_bools bs]
    rfl
theorem cnt_bools : ∀ bs : List Bool, (bs.map PyData.bool).countP (fun y => PyData.eqv y (.bool true)) = bs.count true
  | [] => rfl
  | b :: bs => by
    rw [List.map_cons, List.countP_cons, cnt_bools bs, List.count_cons]
    cases b <;> rfl
theorem mt_countT {X : Cx} (hu : X.A.units + 1 < cLine) : MtR X "list.count" (rCntT X.K) := by
  intro pins s σ H x xs v us Q I rx rxs h
  obtain ⟨p, bs, rfl, rfl, hs, q⟩ := h
  cases (show v = Value.ref p from rx)
  obtain ⟨u, rfl, ru⟩ := rxs.one
  cases (show u = Value.bool true from ru)
  obtain ⟨its, rv, pl, _⟩ := I.list hs
  obtain ⟨as, rs⟩ := Dp.readsAll I _ _ its (dp_bools bs) rv
  refine PySem.SeqAt.count_list_data (d := .bool true) (vs := its.toArray) pl.isList (by simpa using rs) (Reads.bool true) (PyData.plainAll_of_canLay0 _ (lay_bools bs)) rfl (by show X.A.units + 1 + min _ 0 < cLine; omega) ?_
  refine ⟨.int ((bs.map PyData.bool).countP (fun y => PyData.eqv y (.bool true)) : Nat), H, I.tok _, ⟨_, rfl⟩, ?_⟩
  rw [cnt_bools]
  exact q
def rIsHeldE (K : PySem.W.Frag) : List V → Hp → VK → Prop := fun xs H Q => ∃ D, L2.ExcC K D ∧ rIsHeld K D xs H Q
theorem call_isHeldE {X : Cx} : CallR X (.builtin "isinstance") (rIsHeldE X.K) := by
  intro pins s σ H xs us Q I r h
  obtain ⟨D, C, h⟩ := h
  exact call_isHeld C pins s σ H xs us Q I r h
/-- xs.index(True) of some bools -/
def rIdxT (K : PySem.W.Frag) : V → List V → Hp → VK → Prop := fun x xs H Q => ∃ (p : Addr) (bs : List Bool) (j : Nat), x = .ref p ∧ xs = [.bl true] ∧ SqL K H p (bs.map V.bl) ∧ bs.idxOf true = j ∧ j < bs.length ∧ Q (.int (j : Int)) H
end Af

set_option Elab.async false
set_option linter.all false
set_option maxRecDepth 100000
set_option maxHeartbeats 2000000
namespace Af
open PySem PySem.Spec PyProof.Rows L2
/-! a def that may raise, as others call it; data of any kind, as the program's questions see it -/
structure CalX (P : Program) (w : World) (K : PySem.W.Frag) (mg : Str → Option Value) (base : Heap) (k : Nat) (x : Str) (ps : List Str) (sp : Sp) : Prop where
  ex : ∃ (f : Addr) (fd : FuncData), FnOk P w K mg base (L2.CX P w) k f fd ps sp ∧ mg x = some (.ref f) ∧ PySem.W.keepIn K (.ref f) = true ∧ Binds K fd ps []
section
variable {X : Cx} {k j : Nat} {x : Str} {ps : List Str} {sp : Sp} {e : Expr} {es : List Expr} {t : TA} {p pos : Pos} {E : L2.St → XK}
theorem pe_calX (c : CalX X.prog X.w X.K X.mg X.base k x ps sp) (hr : Room j X.A) (out : ∀ σ, PassesAt (L2.CX X.prog X.w) X σ (E σ)) (ha : PA X (e :: es) t) (hkj : k ≤ j := by decide) (hg : Gl X x := by rfl) (hdb : (x == ("__debug__" : Str)) = false := by decide)
    (he : starEach (e :: es) X.env = (false, eval e X.env) :: starEach es X.env := by rfl) (hpl : (backTo pos (starEach es X.env)).any (·.1) = false := by rfl) :
    PE X (.Call (.Name x p) (e :: es) [] pos) (tCallS sp E t) := by
  obtain ⟨f, fd, G, m, kp, b⟩ := c.ex
  exact pe_callS G (hr.mono hkj) hg m kp b out ha hdb he hpl
/-- where what is raised leaves the def -/
theorem outE {E : XK} (h : Passes (L2.CX X.prog X.w) X E) : ∀ σ, PassesAt (L2.CX X.prog X.w) X σ ((fun _ => E) σ) := fun σ pins H s e s' I c => h pins σ H s e s' I c
def rIsHeldTE (K : PySem.W.Frag) : List V → Hp → VK → Prop := fun xs H Q => ∃ D, L2.ExcC K D ∧ rIsHeldT K D xs H Q
theorem call_isHeldTE : CallR X (.builtin "isinstance") (rIsHeldTE X.K) := by
  intro pins s σ H xs us Q I r h
  obtain ⟨D, C, h⟩ := h
  exact call_isHeldT C pins s σ H xs us Q I r h
end
section
variable {K : PySem.W.Frag} {H : Hp}
theorem worths_ints {m : Int} : ∀ {xs : List V} {ds : List PyData}, DxAll K H xs ds → ds.all (idxD m) = true → ∃ ws, xs = ivs ws ∧ ds = dvs ws ∧ ∀ z ∈ ws, 0 ≤ z ∧ z < m
  | _, _, .nil, _ => ⟨[], rfl, rfl, fun z hz => by cases hz⟩
  | _, _, .cons (d := d) h t, q => by
    rw [List.all_cons, Bool.and_eq_true] at q
    obtain ⟨ws, e1, e2, b⟩ := worths_ints t q.2
    cases h with
    | int i =>
      have q1 : (decide (0 ≤ i) && decide (i < m)) = true := q.1
      rw [Bool.and_eq_true] at q1
      refine ⟨i :: ws, by rw [e1]; rfl, by rw [e2]; rfl, fun z hz => ?_⟩
      rcases List.mem_cons.mp hz with rfl | hz
      · exact ⟨of_decide_eq_true q1.1, of_decide_eq_true q1.2⟩
      · exact b z hz
    | _ => cases q.1
/-- what passes for worths is a tuple of small numbers -/
theorem worths_of {x : V} {d : PyData} (h : Dx K H x d) (q : worthsD d = true) : ∃ a ws, x = .ref a ∧ H a = some (.tup (ivs ws)) ∧ d = .tuple (dvs ws) ∧ 1 ≤ ws.length ∧ ∀ z ∈ ws, 0 ≤ z ∧ z < 8 := by
  cases h with
  | tup e t =>
    have q : (!_ && _) = true := q
    rw [Bool.and_eq_true] at q
    obtain ⟨ws, e1, e2, b⟩ := worths_ints t q.2
    subst e1 e2
    refine ⟨_, ws, rfl, e, rfl, ?_, b⟩
    cases ws with
    | nil => exact absurd q.1 (by simp [dvs])
    | cons z r => exact Nat.succ_le_succ (Nat.zero_le _)
  | _ => cases q
end
end Af

set_option Elab.async false
set_option linter.all false
set_option maxRecDepth 100000
namespace L2
open PySem PySem.Spec PyProof.Rows
/-! list(range(8, 0, -1)) -/
section
variable {X : Cx}
def tLst3 (ta : TA) : TE := fun σ H Q => ta σ H fun vs H1 => vs = [.int 8, .int 0, .int (-1)] ∧ ∀ q, H1 q = none → Q (.ref q) (upd H1 q (.lst ([8, 7, 6, 5, 4, 3, 2, 1].map V.int)))
theorem pe_listRg3 {a b c : Expr} {ta : TA} {p p2 pos pos2 : Pos} (hg : Gl X "list") (hm : X.mg "list" = none) (hg2 : Gl X "range") (hm2 : X.mg "range" = none) (ha : PA X [a, b, c] ta) (hc : X.calm = true := by rfl)
    (hs : starEach [a, b, c] X.env = (false, eval a X.env) :: starEach [b, c] X.env := by rfl) (hpl : (backTo pos2 (starEach [b, c] X.env)).any (·.1) = false := by rfl)
    (na : starEach [.Call (.Name "range" p2) [a, b, c] [] pos2] X.env = (false, eval (.Call (.Name "range" p2) [a, b, c] [] pos2) X.env) :: starEach [] X.env := by rfl) :
    PE X (.Call (.Name "list" p) [.Call (.Name "range" p2) [a, b, c] [] pos2] [] pos) (tLst3 ta) := by
  refine ⟨fun pins s σ H Q I h => ?_⟩
  have inner : wpAny (model X.prog X.w) X.A (eval (.Call (.Name "range" p2) [a, b, c] [] pos2) X.env) (fun x s' => ∃ r t u v H', x = .ref r ∧ IsRange s'.heap r 8 0 (-1) t u v ∧ Inv X pins σ H' s' ∧ ∀ q, H' q = none → Q (.ref q) (upd H' q (.lst ([8, 7, 6, 5, 4, 3, 2, 1].map V.int)))) X.xe s := by
    refine Call_ (ld_blt I hg2 hm2 boot_range (PyProof.Rows.callWith_type1 (thn (ha.run pos2 pins s σ H _ I h) fun us s1 ⟨vs, H1, I1, r1, q1⟩ => ?_) hs hpl))
    obtain ⟨e, q⟩ := q1
    subst e
    cases r1 with
    | cons r rr =>
      cases rr with
      | cons r' rr =>
        cases rr with
        | cons r'' rr =>
          cases rr
          obtain ⟨t, rfl⟩ := r
          obtain ⟨t', rfl⟩ := r'
          obtain ⟨t'', rfl⟩ := r''
          refine call_range_3 (by decide) ?_ (.inl (PyProof.noPylong_small (by decide +kernel)))
          exact ⟨_, _, _, _, H1, rfl, IsRange.new _ _ _ _ _ _ _, I1.kept (t' := s1.toks) fun b u e => Heap.get?_push_of_some _ e, q⟩
  refine Call_ (ld_blt I hg hm boot_list (PyProof.Rows.callWith_type1 (args_cons (thn inner fun x s1 ⟨r, t, u, v, H1, ex, hr, I1, q⟩ => args_nil ?_) na) na))
  subst ex
  refine call_list_range (n := 8) (I1.ok.hd hc) hr (by decide +kernel) (by decide +kernel) (by decide) fun h' tk acc c' hk e' hi => ?_
  refine ⟨.ref s1.heap.objs.size, upd H1 s1.heap.objs.size (.lst ([8, 7, 6, 5, 4, 3, 2, 1].map V.int)), I1.laid hk (Nat.le_refl _) (show ObjOk X.prog X.w _ _ _ (.lst _) from ⟨?_, acc.toList, c', ?_, ?_⟩), rfl, q _ (I1.hok.fresh (Nat.le_refl _))⟩
  · show 8 ≤ sizeLine
    decide
  · have e : acc.toList.length = 8 := by rw [Array.length_toList]; exact hi.1
    have z := vals_of_get acc.toList (fun m => V.int (8 + (m : Int) * (-1))) fun j u hj => hi.2 j u (by rw [← hj, Array.getElem?_toList])
    rw [e] at z
    exact z
  · rw [Array.toArray_toList]
    exact e'
end
end L2

set_option Elab.async false
set_option linter.all false
set_option maxRecDepth 100000
set_option maxHeartbeats 4000000
namespace Af
open PySem L2
abbrev s_in_both : Stmt := top 19
abbrev N_in_both : List Str := ["worths", "others", "worth"]
theorem sc_in_both : FnScope N_in_both ["worths", "others"] (defScope s_in_both) := ⟨rfl, rfl, rfl, by decide +kernel, rfl, by decide +kernel, by decide +kernel⟩

abbrev s_both : Stmt := top 18
abbrev N_both : List Str := ["cells", "pattern", "other", "met", "cell"]
theorem sc_both : FnScope N_both ["cells", "pattern", "other"] (defScope s_both) := ⟨rfl, rfl, rfl, by decide +kernel, rfl, by decide +kernel, by decide +kernel⟩

theorem _root_.L2.Room.un65 {k : Nat} {A : Around} (r : L2.Room k A) : A.units + 65 < cLine := by have := r.un; omega
theorem sqT_same {K : PySem.W.Frag} {H H' : Hp} {a : Addr} {xs : List V} (h : SqT K H a xs) (s : Same H H') : SqT K H' a xs := by
  rcases h with (h | ⟨o, h⟩) | h
  · exact .inl (.inl (s _ _ h))
  · exact .inl (.inr ⟨o, s _ _ h⟩)
  · exact .inr h
theorem nd_lenN : ∀ (l : List Nat) (n : Nat), l.Nodup → (∀ k ∈ l, k < n) → l.length ≤ n := fun l n h b => by
  have := sub_lenI (l1 := l.map fun k => ((k : Nat) : Int)) (l2 := (List.range n).map fun k => ((k : Nat) : Int)) (List.pairwise_map.mpr (h.imp fun {a b} z e => z (by omega))) fun x hx => by
    obtain ⟨k, hk, rfl⟩ := List.mem_map.mp hx
    exact List.mem_map.mpr ⟨k, List.mem_range.mpr (b k hk), rfl⟩
  rw [List.length_map, List.length_map, List.length_range] at this
  exact this
theorem lookup_mem {ps : Ptn} {k : Nat} {ws : List Int} (h : ps.lookup k = some ws) : (k, ws) ∈ ps := by
  induction ps with
  | nil => cases h
  | cons p ps ih =>
    obtain ⟨pk, pw⟩ := p
    rw [List.lookup_cons] at h
    by_cases c : k = pk
    · subst c
      rw [beq_self_eq_true] at h
      cases h
      exact List.mem_cons_self
    · rw [show (k == pk) = false by simpa using c] at h
      exact List.mem_cons_of_mem _ (ih h)
def A8 : List Int := [0, 1, 2, 3, 4, 5, 6, 7]
def gP (ps : Ptn) (k : Nat) : List Int := (ps.lookup k).getD A8
def inP (ps qs : Ptn) (k : Nat) : Bool := (ps.lookup k).isSome || (qs.lookup k).isSome
def cutP (ps qs : Ptn) (k : Nat) : List Int := (gP ps k).filter fun z => (gP qs k).contains z
def bothP (ps qs : Ptn) (l : List Nat) : Ptn := (l.filter (inP ps qs)).map fun k => (k, cutP ps qs k)
def noneP (rs : Ptn) : Bool := rs.any fun p => p.2.isEmpty
/-- what both of them let -/
def MetV (H : Hp) (v : V) (rs : Ptn) : Prop := if noneP rs = true then v = .non else ∃ a, v = .ref a ∧ PatV H a rs
theorem rows_val {H : Hp} {rows : List (L2.Key × V)} {ps : Ptn} (h : Paired (RowV H) rows ps) (k : Nat) :
    (ps.lookup k = none ∧ valV rows (.inl (k : Int)) = none) ∨ ∃ ws t, ps.lookup k = some ws ∧ valV rows (.inl (k : Int)) = some (.ref t) ∧ H t = some (.tup (ivs ws)) ∧ (k, ws) ∈ ps := by
  induction h with
  | nil => exact .inl ⟨rfl, rfl⟩
  | @cons r p rs ps hr t ih =>
    obtain ⟨e1, t, e2, e3⟩ := hr
    obtain ⟨pk, pw⟩ := p
    by_cases c : pk = k
    · subst c
      refine .inr ⟨pw, t, by rw [List.lookup_cons, beq_self_eq_true], ?_, e3, List.mem_cons_self⟩
      rw [valV_pos (by rw [e1]), e2]
    · have ne : ¬ (Sum.inl (k : Int) : L2.Key) = r.1 := fun e => c (by rw [e1] at e; injection e with e; have e : (k : Int) = (pk : Int) := e; omega)
      rw [valV_neg (by first | exact ne | exact fun e => ne e.symm), List.lookup_cons, show (k == pk) = false by simpa using fun e => c e.symm]
      rcases ih with h | ⟨ws, t, h1, h2, h3, h4⟩
      · exact .inl h
      · exact .inr ⟨ws, t, h1, h2, h3, List.mem_cons_of_mem _ h4⟩
theorem okpt_len {n : Nat} {ps : Ptn} (o : OkPt n ps) : ps.length ≤ n := by
  have h := nd_lenN (ps.map (·.1)) n o.nd fun k hk => by
    obtain ⟨p, hp, rfl⟩ := List.mem_map.mp hk
    exact o.kb p hp
  rw [List.length_map] at h
  exact h
theorem gP_len {n : Nat} {ps : Ptn} (o : OkPt n ps) (k : Nat) : (gP ps k).length ≤ 8 := by
  unfold gP
  cases e : ps.lookup k with
  | none => exact Nat.le_refl 8
  | some ws =>
    have m := lookup_mem e
    exact asc_len (o.asc _ m) (o.rg _ m)
theorem get_val {K : PySem.W.Frag} {H : Hp} {a aw : Addr} {rows : List (L2.Key × V)} {ps : Ptn} (ha : H a = some (.dK rows)) (h : Paired (RowV H) rows ps) (haw : SqT K H aw (ivs A8)) (k : Nat) :
    ∃ o, DGet H a (.int (k : Int)) o ∧ o.isSome = (ps.lookup k).isSome ∧ ∃ t, o.getD (.ref aw) = .ref t ∧ SqT K H t (ivs (gP ps k)) := by
  unfold gP
  rcases rows_val h k with ⟨h1, h2⟩ | ⟨ws, t, h1, h2, h3, h4⟩
  · refine ⟨none, .inl ⟨rows, .inl (k : Int), .inl ha, rfl, h2.symm⟩, by rw [h1]; rfl, aw, rfl, ?_⟩
    rw [h1]
    exact haw
  · refine ⟨some (.ref t), .inl ⟨rows, .inl (k : Int), .inl ha, rfl, h2.symm⟩, by rw [h1]; rfl, t, rfl, ?_⟩
    rw [h1]
    exact SqT.of h3
theorem bothP_succ (ps qs : Ptn) (i : Nat) : bothP ps qs (List.range (i + 1)) = bothP ps qs (List.range i) ++ (if inP ps qs i = true then [(i, cutP ps qs i)] else []) := by
  unfold bothP
  rw [List.range_succ, List.filter_append, List.map_append]
  congr 1
  by_cases c : inP ps qs i = true
  · rw [if_pos c, List.filter_cons, if_pos c]
    rfl
  · rw [if_neg c, List.filter_cons, if_neg c]
    rfl
theorem bothP_lt {ps qs : Ptn} {i : Nat} : ∀ p ∈ bothP ps qs (List.range i), p.1 < i := fun p hp => by
  obtain ⟨k, hk, rfl⟩ := List.mem_map.mp hp
  exact List.mem_range.mp (List.mem_filter.mp hk).1
theorem bothP_len {ps qs : Ptn} {i : Nat} : (bothP ps qs (List.range i)).length ≤ i := by
  unfold bothP
  rw [List.length_map]
  have := List.length_filter_le (inP ps qs) (List.range i)
  rw [List.length_range] at this
  exact this
def tupsD (rs : Ptn) : List PyData := rs.map fun p => .tuple (dvs p.2)
theorem dp_rows {K : PySem.W.Frag} {H : Hp} : ∀ {rows : List (L2.Key × V)} {rs : Ptn}, Paired (RowV H) rows rs → DpAll K H (rows.map (·.2)) (tupsD rs)
  | _, _, .nil => .nil
  | (k, v) :: _, _, .cons ⟨_, t, e, h⟩ r => by
    have e : v = .ref t := e
    subst e
    exact .cons (.tup (SqT.of h) (dp_ints _)) (dp_rows r)
theorem lay_tups : ∀ rs : Ptn, PyData.canLayAll0 (tupsD rs) = true ∧ PyData.depthAll (tupsD rs) ≤ 2
  | [] => ⟨rfl, by decide⟩
  | p :: rs => by
    obtain ⟨h1, h2⟩ := lay_tups rs
    refine ⟨?_, ?_⟩
    · show (PyData.canLayAll0 (dvs p.2) && PyData.canLayAll0 (tupsD rs)) = true
      rw [lay_ints, h1]
      rfl
    · show max (PyData.depthAll (dvs p.2) + 1) (PyData.depthAll (tupsD rs)) ≤ 2
      rw [deep_ints]
      omega
theorem sh_tups (rs : Ptn) : SeqAt.shaped (.list (tupsD rs)) = true := by
  obtain ⟨h1, h2⟩ := lay_tups rs
  show (PyData.canLayAll0 (tupsD rs) && decide (PyData.depthAll (tupsD rs) + 1 ≤ 64)) = true
  rw [h1, decide_eq_true (by omega)]
  rfl
theorem any_tups (rs : Ptn) : ((tupsD rs).any fun z => PyData.eqv z (.tuple [])) = noneP rs := by
  unfold tupsD noneP
  rw [List.any_map]
  congr 1
  funext p
  show PyData.eqvAll (dvs p.2) [] = _
  cases e : p.2 with
  | nil => rfl
  | cons z zs => rfl
/-- an own exception class without an __init__ of its own -/
structure ExcC (K : PySem.W.Frag) (mg : Str → Option Value) (n : Str) (C : Addr) : Prop where
  gP : mg n = some (.ref C)
  xP : PySem.W.excIn K C [.type "ValueError", .type "Exception", .type "BaseException", .type "object"] "ValueError.__new__" = true
  kP : PySem.W.keepIn K (.ref C) = true
  bP : PySem.W.subIn K (.ref C) (.type "BaseException") = some true
  tP : PySem.W.typeIn K (.ref C) = some (.type "type")
def sp_in_both (K : PySem.W.Frag) : Sp := fun vs H Q _ => ∃ (a b : Addr) (xs ys : List Int), vs = [.ref a, .ref b] ∧ SqT K H a (ivs xs) ∧ SqT K H b (ivs ys) ∧ xs.length ≤ 1000 ∧ ∀ t H', Same H H' → H' t = some (.tup (ivs (xs.filter fun z => ys.contains z))) → Q (.ref t) H'
def sp_both (K : PySem.W.Frag) (IP : Addr) : Sp := fun vs H Q E => ∃ (u v : V) (n : Nat) (du dv : PyData), vs = [.int (n : Nat), u, v] ∧ Dx K H u du ∧ Dx K H v dv ∧ SzP du ∧ SzP dv ∧
  (((patB n du && patB n dv) = false ∧ ∀ H', Same H H' → E (.ref IP) none H') ∨
    ∃ a b ps qs, u = .ref a ∧ v = .ref b ∧ PatV H a ps ∧ PatV H b qs ∧ OkPt n ps ∧ OkPt n qs ∧ n ≤ 24 ∧ ∀ v H', Same H H' → MetV H' v (bothP ps qs (List.range n)) → (∀ c, v = .ref c → H c = none) → Q v H')
section
variable {P : Program} {w : World} {K : PySem.W.Frag} {mg : Str → Option Value} {base : Heap}
theorem ok_in_both {f : Addr} {fd : FuncData} (F : Fun K "_in_both" "_in_both" s_in_both f fd) (T : Txt mg) : FnOk P w K mg base CX0 1 f fd ["worths", "others"] (sp_in_both K) := by
  refine F.ok sc_in_both (fun vs H Q E h => ?_) (fun cdv A outer s H vs Q E hr h => ?_)
  · obtain ⟨_, _, _, _, rfl, _⟩ := h
    rfl
  obtain ⟨a, b, xs, ys, rfl, ha, hb, xl, k⟩ := h
  refine ⟨_, (pss_one (ps_ret (pe_callTy call_tuple' (by rfl) T.tuple (by decide +kernel) (pa_cons (pe_lc (own := [("worth", 2)]) (g := (gName 2)) rfl sc_in_both.nd (pi_tup (pv 0)) (blkOk_by (own := [("worth", 2)]) (N := N_in_both) (sc := defScope s_in_both) (by decide +kernel)) (fun _ _ _ _ _ => pg_name (i := 2) sc_in_both.nd rfl (Or.inl rfl)) (fun _ _ _ _ _ => (pts_one (pt_cmpR (op_inK (K := K) rfl) (pv 2) (pv 1) (by rfl)))) (fun _ _ _ _ _ => (pv 2))) pa_nil)))), ?_⟩
  refine ⟨_, rfl, a, rfl, ⟨_, ha⟩, fun D hD => ?_⟩
  refine lc_tup (K := K) (a := a) (xs := ivs xs) (fun i H' => Same H H' ∧ H' D = some (.lst (ivs ((xs.take i).filter fun z => ys.contains z)))) ?_ ?_ ?_ ?_
  · exact ⟨same_new hD, upd_same⟩
  · rintro i H' _ ⟨s1, _⟩
    exact sqT_same ha s1
  · rintro i x H' hx ⟨s1, h1⟩
    obtain ⟨z, hz, rfl⟩ : ∃ z, xs[i]? = some z ∧ x = .int z := by
      unfold ivs at hx
      rw [List.getElem?_map] at hx
      cases e : xs[i]? with
      | none => rw [e] at hx; cases hx
      | some z => rw [e] at hx; exact ⟨z, rfl, (Option.some.inj hx).symm⟩
    have tk : xs.take (i + 1) = xs.take i ++ [z] := by rw [List.take_succ, hz]; rfl
    refine ⟨rfl, _, rfl, _, rfl, b, _, rfl, .inr (sqT_same hb s1), rfl, flat_ivs _, _, rfl, ?_⟩
    rw [in_ivs]
    have lf : ((xs.take i).filter fun z => ys.contains z).length ≤ 1000 := Nat.le_trans (List.length_filter_le _ _) (by rw [List.length_take]; omega)
    refine ite2 (fun c => ?_) (fun c => ?_)
    · refine ⟨_, rfl, _, h1, szl (by rw [ivs_len]; omega), same_mut s1 hD, ?_⟩
      rw [upd_same, tk, List.filter_append, List.filter_cons, if_pos (by first | exact c | simpa using c)]
      unfold ivs
      rw [List.map_append]
      rfl
    · refine ⟨s1, ?_⟩
      rw [tk, List.filter_append, List.filter_cons, if_neg (by first | (simpa using c) | (rw [c]; decide)), List.filter_nil, List.append_nil]
      exact h1
  · rintro H1 ⟨s1, h1⟩
    rw [ivs_len, List.take_length] at h1
    exact ⟨_, _, rfl, .inl h1, fun t H2 s2 h2 => k t H2 (s1.trans s2) h2⟩
theorem ok_both {f IP : Addr} {fd : FuncData} (F : Fun K "both" "both" s_both f fd) (T : Txt mg) (XP : ExcC K mg "InvalidPattern" IP) (CK : Cst K mg) (c_is_pattern : Cal P w K mg base 5 "is_pattern" ["cells", "thing"] (sp_is_pattern K)) (c_in_both : Cal P w K mg base 1 "_in_both" ["worths", "others"] (sp_in_both K)) : FnOk P w K mg base (L2.CX P w) 6 f fd ["cells", "pattern", "other"] (sp_both K IP) := by
  obtain ⟨aw, aw_m, aw_s⟩ := CK.worths
  refine F.okX sc_both (fun vs H Q E h => ?_) (fun cdv A outer s H vs Q E hr h => ?_)
  · obtain ⟨_, _, _, _, _, rfl, _⟩ := h
    rfl
  obtain ⟨u, v, n, du, dv, rfl, hu, hv, zu, zv, k⟩ := h
  refine ⟨_, (pss_cons (ps_cut (ps_if (PW.pt (pw_or (pt_not (pt_val (pe_cal c_is_pattern hr (pa_cons (pv 0) (pa_cons (pv 1) pa_nil))))) (pw_or1 (pt_not (pt_val (pe_cal c_is_pattern hr (pa_cons (pv 0) (pa_cons (pv 2) pa_nil))))))))
      (pss_one (ps_raise rfl (takes_of rfl rfl rfl rfl) (pmk_own PySem.F.excBase_ValueError XP.xP XP.gP XP.kP (raises_own XP.bP XP.tP) rfl)))
      pss_nil))
    (pss_cons (ps_set (i := 3) sc_both.nd rfl (Or.inl rfl) pe_dnewK)
    (pss_cons (ps_for (passes_of rfl) rfl (pi_range1 rfl T.range (pa_cons (pv 0) pa_nil)) (pg_name (i := 4) sc_both.nd rfl (Or.inl rfl))
      (pss_one (ps_if (PW.pt (pw_or (pt_cmp (pc_din hr.u1 (pv 4) (pv 1))) (pw_or1 (pt_cmp (pc_din hr.u1 (pv 4) (pv 2))))))
      (pss_one (ps_asg (pe_cal c_in_both hr (pa_cons (pe_dget2 hr.u1 (pv 1) (pv 4) (pe_glob (v := .ref aw) rfl aw_m rfl) ⟨rfl, rfl, rfl, rfl⟩) (pa_cons (pe_dget2 hr.u1 (pv 2) (pv 4) (pe_glob (v := .ref aw) rfl aw_m rfl) ⟨rfl, rfl, rfl, rfl⟩) pa_nil))) (pg_sub (pv 3) (pv 4) (set_dict hr.u1))))
      pss_nil)))
    (pss_cons (ps_if (pt_cmpR (op_inD hr.un65) (pe_tup' pa_nil) (pe_listVals rfl (pv 3) (by rfl) T.list (by decide +kernel)) (by rfl))
      (pss_one (ps_ret pe_non))
      pss_nil)
    (pss_one (ps_ret (pv 3))))))), ?_⟩
  rcases k with ⟨bad, kE⟩ | ⟨a, b, ps, qs, rfl, rfl, ha, hb, oa, ob, n24, k⟩
  · refine ⟨fun σ' H' => False, ?_, fun _ _ q => q.elim⟩
    refine ⟨_, rfl, _, rfl, _, _, _, rfl, hu, zu, fun H1 s1 => ?_⟩
    cases e1 : patB n du with
    | false => exact ⟨_, rfl, kE H1 s1⟩
    | true =>
      refine ⟨_, rfl, _, rfl, _, rfl, _, _, _, rfl, Dx.same s1 hv, zv, fun H2 s2 => ?_⟩
      rw [e1, Bool.true_and] at bad
      rw [bad]
      exact ⟨_, rfl, kE H2 (s1.trans s2)⟩
  have la := okpt_len oa
  have lb := okpt_len ob
  refine ⟨fun σ' H' => σ' = L2.start N_both [V.int (n : Nat), V.ref a, V.ref b] ∧ Same H H', ?_, ?_⟩
  · refine ⟨_, rfl, _, rfl, _, _, _, rfl, dx_pat ha, pat_sz oa (by omega), fun H1 s1 => ?_⟩
    rw [pat_ok oa]
    refine ⟨_, rfl, _, rfl, _, rfl, _, _, _, rfl, dx_pat (hb.same s1), pat_sz ob (by omega), fun H2 s2 => ?_⟩
    rw [pat_ok ob]
    exact ⟨_, rfl, rfl, s1.trans s2⟩
  · rintro σ' H1 ⟨rfl, s1⟩
    obtain ⟨ra, ha', pa⟩ := (ha.same s1).ex
    obtain ⟨rb, hb', pb⟩ := (hb.same s1).ex
    refine fun M hM => ⟨_, rfl, _, rfl, by omega, by omega, for_range (lo := 0) (n := n) (fun i σ' H' => ∃ v4 rows, σ' = [some (.int (n : Nat)), some (.ref a), some (.ref b), some (.ref M), v4] ∧ Same H1 H' ∧ H' M = some (.dK rows) ∧ Paired (RowV H') rows (bothP ps qs (List.range i))) ?_ ?_ ?_⟩
    · exact ⟨_, [], rfl, same_new hM, upd_same, .nil⟩
    · rintro i σ' H2 hi ⟨v4, rows, rfl, s2, h2, pr⟩
      obtain ⟨o1, g1, e1, t1, r1, q1⟩ := get_val (K := K) (s2 _ _ ha') (rows_same s2 pa) (aw_s H2) i
      obtain ⟨o2, g2, e2, t2, r2, q2⟩ := get_val (K := K) (s2 _ _ hb') (rows_same s2 pb) (aw_s H2) i
      have ei : (0 : Int) + ((i : Nat) : Int) = ((i : Nat) : Int) := Int.zero_add _
      rw [ei]
      have key : ∀ D : Ends, (∀ σ' H', (∃ v4 rows, σ' = [some (.int (n : Nat)), some (.ref a), some (.ref b), some (.ref M), v4] ∧ Same H1 H' ∧ H' M = some (.dK rows) ∧ Paired (RowV H') rows (bothP ps qs (List.range (i + 1)))) → D.nx σ' H') → inP ps qs i = true →
          tAsg (tCal (sp_in_both K) (tCons (tDGet2 (tVar 1) (tVar 4) (tC (V.ref aw))) (tCons (tDGet2 (tVar 2) (tVar 4) (tC (V.ref aw))) tNil))) (gSub (tVar 3) (tVar 4) rSetD) D [some (.int (n : Nat)), some (.ref a), some (.ref b), some (.ref M), some (.int ((i : Nat) : Int))] H2 := fun D hD c => by
        refine ⟨_, rfl, a, rfl, .inl ⟨ra, .inl (s2 _ _ ha')⟩, _, rfl, o1, g1, ?_⟩
        refine ⟨_, rfl, b, rfl, .inl ⟨rb, .inl (s2 _ _ hb')⟩, _, rfl, o2, g2, ?_⟩
        rw [r1, r2]
        have gl := gP_len oa i
        refine ⟨t1, t2, _, _, rfl, q1, q2, by omega, fun t H3 s3 h3 => ?_⟩
        have rl : rows.length ≤ i := by rw [paired_len pr]; exact bothP_len
        have pr3 := rows_same s3 pr
        have h2' := s3 _ _ h2
        have nw : (Sum.inl ((i : Nat) : Int) : L2.Key) ∉ rows.map (·.1) := fun mm => by
          rw [rows_keys pr] at mm
          obtain ⟨p, hp, e⟩ := List.mem_map.mp mm
          have e1 : p.1 = i := by injection e; omega
          have := bothP_lt p hp
          omega
        refine ⟨_, rfl, _, rfl, M, _, rfl, DPut.k (k := .inl ((i : Nat) : Int)) h2' (szl (by omega)), ?_⟩
        rw [putK_snoc nw]
        have nM : t ≠ M := fun e => by rw [e, h2'] at h3; cases h3
        refine hD _ _ ⟨_, _, rfl, same_mut (s2.trans s3) hM, upd_same, ?_⟩
        rw [bothP_succ, if_pos c]
        exact paired_app (rows_upd h2' (fun l z => by cases z) pr3) (.cons ⟨rfl, t, rfl, by rw [upd_ne nM]; exact h3⟩ .nil)
      refine ⟨_, rfl, _, rfl, a, o1, rfl, g1, _, rfl, ?_⟩
      rw [e1]
      cases c1 : (ps.lookup i).isSome with
      | true => exact key _ (fun _ _ h => h) (by unfold inP; rw [c1]; rfl)
      | false =>
        refine ⟨_, rfl, _, rfl, b, o2, rfl, g2, _, rfl, ?_⟩
        rw [e2]
        cases c2 : (qs.lookup i).isSome with
        | true => exact key _ (fun _ _ h => h) (by unfold inP; rw [c1, c2]; rfl)
        | false =>
          refine ⟨_, rows, rfl, s2, h2, ?_⟩
          rw [bothP_succ, if_neg (by unfold inP; rw [c1, c2]; decide), List.append_nil]
          exact pr
    · rintro σ' H2 ⟨v4, rows, rfl, s2, h2, pr⟩
      have nM : H M = none := s1.free hM
      refine ⟨szr, fun t0 H3 n3 s3 h3 => ?_⟩
      refine ⟨_, rfl, M, rows, rfl, s3 _ _ h2, fun l hl => ?_⟩
      have s4 := same_new (o := .lst (rows.map (·.2))) hl
      have pr4 := rows_same s4 (rows_same s3 pr)
      refine ⟨.tuple [], tupsD (bothP ps qs (List.range n)), .tup (SqT.of (s4 _ _ h3)) .nil, .lst (SqL.of upd_same) (dp_rows pr4), rfl, sh_tups _, _, rfl, ?_⟩
      rw [any_tups]
      have S4 := s1.trans (s2.trans (s3.trans s4))
      have M4 := s4 _ _ (s3 _ _ h2)
      have done := k
      unfold MetV at done
      cases c : noneP (bothP ps qs (List.range n)) with
      | true => exact k .non _ S4 (by unfold MetV; rw [if_pos c]) (fun _ e => by cases e)
      | false => exact ⟨_, rfl, k (.ref M) _ S4 (by unfold MetV; rw [if_neg (by rw [c]; decide)]; exact ⟨M, rfl, _, M4, pr4⟩) (fun _ e => by cases e; exact nM)⟩
end
end Af

set_option Elab.async false
set_option linter.all false
set_option maxRecDepth 100000
set_option maxHeartbeats 8000000
namespace Af
open PySem L2
abbrev s_matches : Stmt := top 16
abbrev N_matches : List Str := ["pattern", "content"]
theorem sc_matches : FnScope N_matches ["pattern", "content"] (defScope s_matches) := ⟨rfl, rfl, rfl, by decide +kernel, rfl, by decide +kernel, by decide +kernel⟩

abbrev s_l_error : Stmt := top 28
abbrev N_l_error : List Str := ["_law_some_here", "_law_road", "_law_caught", "_law_found", "e", "_law_kinds"]
theorem sc_l_error : FnScope N_l_error ["_law_some_here", "_law_road"] (defScope s_l_error) := ⟨rfl, rfl, rfl, by decide +kernel, rfl, by decide +kernel, by decide +kernel⟩

theorem dx_content {K : PySem.W.Frag} {H : Hp} {x : V} {d : PyData} (h : Dx K H x d) : contentB H x = contentD d := by
  unfold contentB contentD
  rw [dx_worths h]
  cases c : worthsD d with
  | false => rfl
  | true =>
    cases h with
    | @tup a xs ds e t =>
      have l : lenB H (.ref a) = xs.length := by simp only [lenB, e]
      rw [l, t.len]
      rfl
    | _ => cases c
/-- a content -/
structure CoV (H : Hp) (ca : Addr) (cs : List Int) : Prop where
  h : H ca = some (.tup (ivs cs))
  l1 : 1 ≤ cs.length
  l24 : cs.length ≤ 24
  b : ∀ z ∈ cs, 0 ≤ z ∧ z < 8
theorem CoV.same {H H' : Hp} {ca : Addr} {cs : List Int} (c : CoV H ca cs) (s : Same H H') : CoV H' ca cs := ⟨s _ _ c.h, c.l1, c.l24, c.b⟩
theorem CoV.dx {K : PySem.W.Frag} {H : Hp} {ca : Addr} {cs : List Int} (c : CoV H ca cs) : Dx K H (.ref ca) (.tuple (dvs cs)) := Dx.of (.tup c.h (dq_ints _))
theorem CoV.ok {H : Hp} {ca : Addr} {cs : List Int} (c : CoV H ca cs) : contentD (.tuple (dvs cs)) = true := by
  have l1 := c.l1
  have l24 := c.l24
  have b := c.b
  unfold contentD
  rw [Bool.and_eq_true]
  refine ⟨?_, ?_⟩
  · show (!(dvs cs).isEmpty && (dvs cs).all (idxD 8)) = true
    rw [Bool.and_eq_true, List.all_eq_true]
    refine ⟨?_, fun d hd => ?_⟩
    · cases cs with
      | nil => exact absurd l1 (by decide)
      | cons _ _ => rfl
    · obtain ⟨z, hz, rfl⟩ := dvs_mem hd
      have := b z hz
      show (decide (0 ≤ z) && decide (z < 8)) = true
      rw [decide_eq_true (by omega), decide_eq_true (by omega)]
      rfl
  · show decide ((dvs cs).length ≤ 24) = true
    unfold dvs
    rw [List.length_map, decide_eq_true l24]
theorem CoV.wd {H : Hp} {ca : Addr} {cs : List Int} (c : CoV H ca cs) : WdD (.tuple (dvs cs)) := fun ds e => by
  have l24 := c.l24
  rcases e with e | e
  · cases e
    unfold dvs
    rw [List.length_map]
    omega
  · cases e
def sp_matches (K : PySem.W.Frag) (IC IP : Addr) : Sp := fun vs H Q E => ∃ (u v : V) (du dv : PyData), vs = [u, v] ∧ Dx K H u du ∧ Dx K H v dv ∧ SzP du ∧ WdD dv ∧
  ((contentD dv = false ∧ ∀ H', Same H H' → E (.ref IC) none H') ∨ ∃ ca cs, v = .ref ca ∧ CoV H ca cs ∧ dv = .tuple (dvs cs) ∧ ((patB cs.length du = false ∧ ∀ H', Same H H' → E (.ref IP) none H') ∨
    ∃ a ps, u = .ref a ∧ PatV H a ps ∧ OkPt cs.length ps ∧ ∀ H', Same H H' → Q (.bl (agB ps cs)) H'))
def sp_error (K : PySem.W.Frag) : Sp := fun vs H Q _ => ∃ (l : Addr) (r : Int), vs = [.ref l, .int r] ∧ ((r = 0 ∧ ∃ u v du dv, H l = some (.lst [u, v]) ∧ Dx K H u du ∧ Dx K H v dv ∧ SzP du ∧ WdD dv ∧
    ((contentD dv = false ∧ ∀ H', Same H H' → Q (.str "content") H') ∨ ∃ ca cs, v = .ref ca ∧ CoV H ca cs ∧ dv = .tuple (dvs cs) ∧ patB cs.length du = false ∧ ∀ H', Same H H' → Q (.str "pattern") H')) ∨
  (r = 1 ∧ ∃ (n : Nat) (u v : V) (du dv : PyData), H l = some (.lst [.int (n : Nat), u, v]) ∧ Dx K H u du ∧ Dx K H v dv ∧ SzP du ∧ SzP dv ∧ (patB n du && patB n dv) = false ∧ ∀ H', Same H H' → Q (.str "pattern") H'))
/-- the classes of errors that the law names -/
structure ErrC (K : PySem.W.Frag) (mg : Str → Option Value) (CF IC IP IU : Addr) : Prop where
  gF : mg "FallError" = some (.ref CF)
  gC : mg "InvalidContent" = some (.ref IC)
  gP : mg "InvalidPattern" = some (.ref IP)
  gU : mg "UnknownCell" = some (.ref IU)
  exC : PySem.W.exmOne K (.ref IC) (.ref CF) = some true
  exP : PySem.W.exmOne K (.ref IP) (.ref CF) = some true
  cC : L2.ExcC K IC
  cP : L2.ExcC K IP
  nC : PySem.W.kitOne K (.ref IC) (.ref IU) = some false
  nP : PySem.W.kitOne K (.ref IP) (.ref IU) = some false
  kC : PySem.W.kitOne K (.ref IC) (.ref IC) = some true ∧ PySem.W.kitOne K (.ref IC) (.ref IP) = some false
  kP : PySem.W.kitOne K (.ref IP) (.ref IC) = some false ∧ PySem.W.kitOne K (.ref IP) (.ref IP) = some true
/-- what an error of class D is told as -/
structure Kin (K : PySem.W.Frag) (CF IC IP IU D : Addr) (t : Str) : Prop where
  ex : PySem.W.exmOne K (.ref D) (.ref CF) = some true
  c : L2.ExcC K D
  no : PySem.W.kitOne K (.ref D) (.ref IU) = some false
  kk : ∃ (b1 b2 : Bool) (j : Nat), PySem.W.kitOne K (.ref D) (.ref IC) = some b1 ∧ PySem.W.kitOne K (.ref D) (.ref IP) = some b2 ∧ [b1, b2].count true = 1 ∧
    [V.bl b1, .bl b2][j]? = some (.bl true) ∧ (∀ (m : Nat) (z' : V), m < j → [V.bl b1, .bl b2][m]? = some z' → eqV z' (.bl true) = false) ∧ [V.str "content", .str "pattern"][j]? = some (.str t)
theorem ErrC.kinC {K : PySem.W.Frag} {mg : Str → Option Value} {CF IC IP IU : Addr} (X : ErrC K mg CF IC IP IU) : Kin K CF IC IP IU IC "content" :=
  ⟨X.exC, X.cC, X.nC, true, false, 0, X.kC.1, X.kC.2, rfl, rfl, fun m _ h => absurd h (Nat.not_lt_zero m), rfl⟩
theorem ErrC.kinP {K : PySem.W.Frag} {mg : Str → Option Value} {CF IC IP IU : Addr} (X : ErrC K mg CF IC IP IU) : Kin K CF IC IP IU IP "pattern" :=
  ⟨X.exP, X.cP, X.nP, false, true, 1, X.kP.1, X.kP.2, rfl, rfl, fun m z h e => by
    obtain rfl : m = 0 := by omega
    cases e
    rfl, rfl⟩
section
variable {P : Program} {w : World} {K : PySem.W.Frag} {mg : Str → Option Value} {base : Heap}
theorem ok_matches {f IC IP : Addr} {fd : FuncData} (F : Fun K "matches" "matches" s_matches f fd) (T : Txt mg) (XC : ExcC K mg "InvalidContent" IC) (XP : ExcC K mg "InvalidPattern" IP) (c_is_content : Cal P w K mg base 4 "is_content" ["thing"] (sp_is_content K))
    (c_is_pattern : Cal P w K mg base 5 "is_pattern" ["cells", "thing"] (sp_is_pattern K)) (c_agrees : Cal P w K mg base 1 "agrees" ["pattern", "content"] sp_agrees) : FnOk P w K mg base (L2.CX P w) 6 f fd ["pattern", "content"] (sp_matches K IC IP) := by
  refine F.okX sc_matches (fun vs H Q E h => ?_) (fun cdv A outer s H vs Q E hr h => ?_)
  · obtain ⟨_, _, _, _, rfl, _⟩ := h
    rfl
  obtain ⟨u, v, du, dv, rfl, hu, hv, zu, wv, k⟩ := h
  refine ⟨_, (pss_cons (ps_if (pt_not (pt_val (pe_cal c_is_content hr (pa_cons (pv 1) pa_nil))))
      (pss_one (ps_raise rfl (takes_of rfl rfl rfl rfl) (pmk_own PySem.F.excBase_ValueError XC.xP XC.gP XC.kP (raises_own XC.bP XC.tP) rfl)))
      pss_nil)
    (pss_cons (ps_if (pt_not (pt_val (pe_cal c_is_pattern hr (pa_cons (pe_callB call_len' (by rfl) T.len (by decide +kernel) (pa_cons (pv 1) pa_nil)) (pa_cons (pv 0) pa_nil)))))
      (pss_one (ps_raise rfl (takes_of rfl rfl rfl rfl) (pmk_own PySem.F.excBase_ValueError XP.xP XP.gP XP.kP (raises_own XP.bP XP.tP) rfl)))
      pss_nil)
    (pss_one (ps_ret (pe_cal c_agrees hr (pa_cons (pv 0) (pa_cons (pv 1) pa_nil))))))), ?_⟩
  refine ⟨_, rfl, v, rfl, dx_th1 hv wv, fun H1 s1 => ?_⟩
  rw [dx_content hv]
  rcases k with ⟨bad, kE⟩ | ⟨ca, cs, rfl, co, rfl, k⟩
  · rw [bad]
    exact ⟨_, rfl, kE H1 s1⟩
  rw [co.ok]
  refine ⟨_, rfl, iteF ⟨_, rfl, ca, _, rfl, .inr (s1 _ _ co.h), _, rfl, (((ivs cs).length : Nat) : Int), u, du, rfl, Dx.same s1 hu, zu, fun H2 s2 => ?_⟩⟩
  rw [ivs_len]
  have S2 := s1.trans s2
  rcases k with ⟨bad, kE⟩ | ⟨a, ps, rfl, hp, op, kQ⟩
  · rw [bad]
    exact ⟨_, rfl, kE H2 S2⟩
  · have e : du = patD ps := Dx.fn hu (dx_pat hp)
    rw [e, pat_ok op]
    have l := okpt_len op
    have l24 := co.l24
    exact ⟨_, rfl, iteF ⟨_, rfl, _, rfl, a, ca, cs.length, ps, cs, rfl, hp.same S2, op, by omega, S2 _ _ co.h, Nat.le_refl _, fun H3 s3 => kQ H3 (S2.trans s3)⟩⟩
def tb_l_error (K : PySem.W.Frag) (IC IP : Addr) (W : WX) : TS := tAsg (tIf (tTest (tOp rEq (tVar 1) (tC (.int 0)))) (tCallS (sp_matches K IC IP) (WE W) (tCons (tOp rIx' (tVar 0) (tC (.int 0))) (tCons (tOp rIx' (tVar 0) (tC (.int 1))) tNil)))
  (tCallS (sp_both K IP) (WE W) (tCons (tOp rIx' (tVar 0) (tC (.int 0))) (tCons (tOp rIx' (tVar 0) (tC (.int 1))) (tCons (tOp rIx' (tVar 0) (tC (.int 2))) tNil))))) (gName 3)
def ts_l_error (_ : Addr) (_ : Value) (_ : Option Addr) : TS := tAsg (tVar 4) (gName 2)
theorem ok_error {f CF IC IP IU : Addr} {fd : FuncData} (F : Fun K "_law_error" "_law_error" s_l_error f fd) (T : Txt mg) (X : ErrC K mg CF IC IP IU) (c_matches : CalX P w K mg base 6 "matches" ["pattern", "content"] (sp_matches K IC IP)) (c_both : CalX P w K mg base 6 "both" ["cells", "pattern", "other"] (sp_both K IP)) :
    FnOk P w K mg base CX0 7 f fd ["_law_some_here", "_law_road"] (sp_error K) := by
  have g_FallError := X.gF
  have g_IC := X.gC
  have g_IP := X.gP
  have g_IU := X.gU
  refine F.ok sc_l_error (fun vs H Q E h => ?_) (fun cdv A outer s H vs Q E hr h => ?_)
  · obtain ⟨_, _, rfl, _⟩ := h
    rfl
  obtain ⟨l, r, rfl, k⟩ := h
  refine ⟨_, (pss_cons (ps_set (i := 2) sc_l_error.nd rfl (Or.inl rfl) pe_non)
    (pss_cons (ps_set (i := 3) sc_l_error.nd rfl (Or.inl rfl) pe_non)
    (pss_cons (ps_try_hold (i := 4) (tb := tb_l_error K IC IP) (ts := ts_l_error) (Wout := fun _ _ _ _ => False) rfl rfl sc_l_error.nd rfl rfl rfl ⟨rfl, by decide, .inl g_FallError⟩ takes0
      (fun W pn xe tk _ => (pss_one (ps_set (i := 3) sc_l_error.nd rfl (Or.inl rfl) (pe_ifExp (pt_cmpR op_eq (pv 1) pe_int (nomark _)) (pe_calX c_matches hr (fun σ => passAt tk σ) (pa_cons (pe_ix ix_seq' (pv 0) pe_int (fun _ _ => rfl)) (pa_cons (pe_ix ix_seq' (pv 0) pe_int (fun _ _ => rfl)) pa_nil))) (pe_calX c_both hr (fun σ => passAt tk σ) (pa_cons (pe_ix ix_seq' (pv 0) pe_int (fun _ _ => rfl)) (pa_cons (pe_ix ix_seq' (pv 0) pe_int (fun _ _ => rfl)) (pa_cons (pe_ix ix_seq' (pv 0) pe_int (fun _ _ => rfl)) pa_nil))))))))
      (fun a oe cls d pn hz hf => (pss_one (ps_set (i := 2) sc_l_error.nd rfl (Or.inl rfl) (pv 4)))))
    (pss_cons (ps_cut (ps_if (PW.pt (pw_or (pt_cmpR op_isN (pv 2) pe_non (nomark _)) (pw_or1 (pt_val (pe_callB call_isHeldE (by rfl) T.isinstance (by decide +kernel) (pa_cons (pv 2) (pa_cons (pe_glob (v := .ref IU) rfl g_IU rfl) pa_nil)))))))
      (pss_one (ps_ret (pe_ifExp (pt_cmpR op_isN (pv 2) pe_non (nomark _)) pe_str pe_str)))
      pss_nil))
    (pss_cons (ps_set (i := 5) sc_l_error.nd rfl (Or.inl rfl) (pe_lst' (pa_cons (pe_callB call_isHeldE (by rfl) T.isinstance (by decide +kernel) (pa_cons (pv 2) (pa_cons (pe_glob (v := .ref IC) rfl g_IC rfl) pa_nil))) (pa_cons (pe_callB call_isHeldE (by rfl) T.isinstance (by decide +kernel) (pa_cons (pv 2) (pa_cons (pe_glob (v := .ref IP) rfl g_IP rfl) pa_nil))) pa_nil))))
    (pss_one (ps_ret (pe_ifExp (pt_cmpR op_eq (pe_bm PySem.F.plainAttrs_list PySem.F.slot_list_count PySem.F.type_list_count (mt_countT (Nat.lt_of_le_of_lt (Nat.add_le_add_left (show 1 ≤ 64 by decide) _) hr.units)) (pv 5) (pa_cons pe_bl pa_nil)) pe_int (nomark _)) (pe_ix ix_seq' (pe_lst' (pa_cons pe_str (pa_cons pe_str pa_nil))) (pe_bm PySem.F.plainAttrs_list PySem.F.slot_list_index PySem.F.type_list_index mt_index (pv 5) (pa_cons pe_bl pa_nil)) (fun _ _ => rfl)) pe_str)))))))), ?_⟩
  rcases k with ⟨rfl, u, v, du, dv, hl, hu, hv, zu, wv, k⟩ | ⟨rfl, n, u, v, du, dv, hl, hu, hv, zu, zv, bad, k⟩
  · refine ⟨_, rfl, rfl, _, rfl, iteT ⟨_, rfl, l, _, 0, _, rfl, rfl, .inl hl, rfl, _, rfl, l, _, 1, _, rfl, rfl, .inl hl, rfl, u, v, du, dv, rfl, hu, hv, zu, wv, ?_⟩⟩
    rcases k with ⟨bad, k⟩ | ⟨ca, cs, rfl, co, rfl, bad, k⟩
    · refine .inl ⟨bad, fun H1 s1 => by
      have kin := X.kinC
      refine ⟨true, kin.ex, fun _ b na => ⟨_, rfl, ?_⟩, fun y => by cases y⟩
      obtain ⟨b1, b2, j, q1, q2, q4, q5, q6, q7⟩ := kin.kk
      have sb := s1.trans (same_new (o := HeldE (.ref IC) none b) na)
      have hb : (L2.upd H1 b (HeldE (.ref IC) none b)) b = some (HeldE (.ref IC) none b) := upd_same
      refine ⟨fun σ' H' => σ' = [some (.ref l), some (.int 0), some (.ref b), some .non, none, none] ∧ Same H H' ∧ H' b = some (HeldE (.ref IC) none b), ?_, ?_⟩
      · exact ⟨_, rfl, rfl, _, rfl, iteF ⟨_, rfl, IC, kin.c, b, _, _, false, rfl, hb, .own IU, kin.no, _, rfl, iteF ⟨rfl, sb, hb⟩⟩⟩
      rintro _ H2 ⟨rfl, sb, hb⟩
      refine ⟨_, rfl, IC, kin.c, b, _, _, b1, rfl, hb, .own IC, q1, _, rfl, IC, kin.c, b, _, _, b2, rfl, hb, .own IP, q2, szr, fun kl H3 n3 s3 h3 => ?_⟩
      refine ⟨_, rfl, .inl ⟨rfl, _, SqL.of h3⟩, kl, [b1, b2], rfl, rfl, SqL.of h3, rfl, _, rfl, ?_⟩
      rw [q4]
      exact iteT ⟨szr, fun tl H4 n4 s4 h4 => ⟨_, rfl, .inl ⟨rfl, _, SqL.of (s4 _ _ h3)⟩, kl, _, .bl true, j, .bl true, rfl, rfl, SqL.of (s4 _ _ h3), rfl, rfl, q5, rfl, q6, tl, _, _, _, rfl, rfl, .inl h4, atI_nat q7, k H4 (sb.trans (s3.trans s4))⟩⟩⟩
    · refine .inr ⟨ca, cs, rfl, co, rfl, .inl ⟨bad, fun H1 s1 => by
      have kin := X.kinP
      refine ⟨true, kin.ex, fun _ b na => ⟨_, rfl, ?_⟩, fun y => by cases y⟩
      obtain ⟨b1, b2, j, q1, q2, q4, q5, q6, q7⟩ := kin.kk
      have sb := s1.trans (same_new (o := HeldE (.ref IP) none b) na)
      have hb : (L2.upd H1 b (HeldE (.ref IP) none b)) b = some (HeldE (.ref IP) none b) := upd_same
      refine ⟨fun σ' H' => σ' = [some (.ref l), some (.int 0), some (.ref b), some .non, none, none] ∧ Same H H' ∧ H' b = some (HeldE (.ref IP) none b), ?_, ?_⟩
      · exact ⟨_, rfl, rfl, _, rfl, iteF ⟨_, rfl, IP, kin.c, b, _, _, false, rfl, hb, .own IU, kin.no, _, rfl, iteF ⟨rfl, sb, hb⟩⟩⟩
      rintro _ H2 ⟨rfl, sb, hb⟩
      refine ⟨_, rfl, IP, kin.c, b, _, _, b1, rfl, hb, .own IC, q1, _, rfl, IP, kin.c, b, _, _, b2, rfl, hb, .own IP, q2, szr, fun kl H3 n3 s3 h3 => ?_⟩
      refine ⟨_, rfl, .inl ⟨rfl, _, SqL.of h3⟩, kl, [b1, b2], rfl, rfl, SqL.of h3, rfl, _, rfl, ?_⟩
      rw [q4]
      exact iteT ⟨szr, fun tl H4 n4 s4 h4 => ⟨_, rfl, .inl ⟨rfl, _, SqL.of (s4 _ _ h3)⟩, kl, _, .bl true, j, .bl true, rfl, rfl, SqL.of (s4 _ _ h3), rfl, rfl, q5, rfl, q6, tl, _, _, _, rfl, rfl, .inl h4, atI_nat q7, k H4 (sb.trans (s3.trans s4))⟩⟩⟩⟩
  · refine ⟨_, rfl, rfl, _, rfl, iteF ⟨_, rfl, l, _, 0, _, rfl, rfl, .inl hl, rfl, _, rfl, l, _, 1, _, rfl, rfl, .inl hl, rfl, _, rfl, l, _, 2, _, rfl, rfl, .inl hl, rfl, u, v, n, du, dv, rfl, hu, hv, zu, zv, ?_⟩⟩
    refine .inl ⟨bad, fun H1 s1 => by
    have kin := X.kinP
    refine ⟨true, kin.ex, fun _ b na => ⟨_, rfl, ?_⟩, fun y => by cases y⟩
    obtain ⟨b1, b2, j, q1, q2, q4, q5, q6, q7⟩ := kin.kk
    have sb := s1.trans (same_new (o := HeldE (.ref IP) none b) na)
    have hb : (L2.upd H1 b (HeldE (.ref IP) none b)) b = some (HeldE (.ref IP) none b) := upd_same
    refine ⟨fun σ' H' => σ' = [some (.ref l), some (.int 1), some (.ref b), some .non, none, none] ∧ Same H H' ∧ H' b = some (HeldE (.ref IP) none b), ?_, ?_⟩
    · exact ⟨_, rfl, rfl, _, rfl, iteF ⟨_, rfl, IP, kin.c, b, _, _, false, rfl, hb, .own IU, kin.no, _, rfl, iteF ⟨rfl, sb, hb⟩⟩⟩
    rintro _ H2 ⟨rfl, sb, hb⟩
    refine ⟨_, rfl, IP, kin.c, b, _, _, b1, rfl, hb, .own IC, q1, _, rfl, IP, kin.c, b, _, _, b2, rfl, hb, .own IP, q2, szr, fun kl H3 n3 s3 h3 => ?_⟩
    refine ⟨_, rfl, .inl ⟨rfl, _, SqL.of h3⟩, kl, [b1, b2], rfl, rfl, SqL.of h3, rfl, _, rfl, ?_⟩
    rw [q4]
    exact iteT ⟨szr, fun tl H4 n4 s4 h4 => ⟨_, rfl, .inl ⟨rfl, _, SqL.of (s4 _ _ h3)⟩, kl, _, .bl true, j, .bl true, rfl, rfl, SqL.of (s4 _ _ h3), rfl, rfl, q5, rfl, q6, tl, _, _, _, rfl, rfl, .inl h4, atI_nat q7, k H4 (sb.trans (s3.trans s4))⟩⟩⟩
end
end Af

set_option Elab.async false
set_option linter.all false
set_option maxRecDepth 100000
set_option maxHeartbeats 8000000
namespace Af
open PySem L2
abbrev s_l_choices : Stmt := top 27
abbrev N_l_choices : List Str := ["_law_pen_here", "_law_many", "_law_found", "_law_one", "_law_some_here"]
theorem sc_l_choices : FnScope N_l_choices ["_law_pen_here", "_law_many"] (defScope s_l_choices) := ⟨rfl, rfl, rfl, by decide +kernel, rfl, by decide +kernel, by decide +kernel⟩

theorem iteT' {c : Bool} {p q : Prop} (h : c = true) (k : p) : if c = true then p else q := by rw [if_pos h]; exact k
theorem iteF' {c : Bool} {p q : Prop} (h : c = false) (k : q) : if c = true then p else q := by rw [if_neg (by rw [h]; decide)]; exact k
theorem nvs_lt {ps : List Nat} {i : Nat} {y : V} (h : (nvs ps)[i]? = some y) : ∃ hi : i < ps.length, y = .int ((ps[i] : Nat) : Int) := by
  unfold nvs ivs at h
  rw [List.getElem?_map, List.getElem?_map] at h
  cases e : ps[i]? with
  | none => rw [e] at h; cases h
  | some n =>
    obtain ⟨hi, hn⟩ := List.getElem?_eq_some_iff.mp e
    rw [e] at h
    exact ⟨hi, by rw [hn]; exact (Option.some.inj h).symm⟩
theorem rgV_nvs (n : Nat) : rgV 0 (n : Int) = nvs (List.range n) := by
  unfold rgV nvs ivs
  rw [List.map_map]
  simp [Function.comp_def]
/-- some numbers of those below n, drawn -/
theorem drawn_cells {n : Nat} {ys rest : List V} (pe : (ys ++ rest).Perm (nvs (List.range n))) : ∃ T : List Nat, ys = nvs T ∧ T.Nodup ∧ ∀ x ∈ T, x < n := by
  obtain ⟨l, h1, h2⟩ := paired_perm pe (paired_nvs _)
  obtain ⟨T0, R0, rfl, h3, h4⟩ := paired_split h1
  refine ⟨T0, nvs_paired h3, (List.nodup_append.mp (h2.nodup_iff.mpr List.nodup_range)).1, fun x hx => List.mem_range.mp (h2.mem_iff.mp (List.mem_append.mpr (.inl hx)))⟩
def sp_choices : Sp := fun vs H Q _ => ∃ (q : Pn) (m n : Nat), vs = [.ref q.p, .int (n : Nat)] ∧ Pen q m H ∧ m + 1000 < 1000000000000 ∧ 1 ≤ n ∧ n ≤ 24 ∧ ∀ d H' ps, Go q (m + 700) H H' → H d = none → PatV H' d ps → OkPt n ps → ps.length ≤ 5 → Q (.ref d) H'
section
variable {P : Program} {w : World} {K : PySem.W.Frag} {mg : Str → Option Value} {base : Heap}
theorem ok_choices {f : Addr} {fd : FuncData} (F : Fun K "_law_choices" "_law_choices" s_l_choices f fd) (T : Txt mg) (t_sorted : mg "sorted" = none) (c_l_draw : Cal P w K mg base 2 "_law_draw" ["_law_pen_here", "_law_under"] sp_draw)
    (c_l_some : Cal P w K mg base 3 "_law_some" ["_law_pen_here", "_law_pool", "_law_most"] sp_someV) : FnOk P w K mg base CX0 4 f fd ["_law_pen_here", "_law_many"] sp_choices := by
  refine F.ok sc_l_choices (fun vs H Q E h => ?_) (fun cdv A outer s H vs Q E hr h => ?_)
  · obtain ⟨_, _, _, rfl, _⟩ := h
    rfl
  obtain ⟨q, m, n, rfl, pn, hm, n1, n24, k⟩ := h
  refine ⟨_, (pss_cons (ps_set (i := 2) sc_l_choices.nd rfl (Or.inl rfl) pe_dnewK)
    (pss_cons (ps_for PassesOwn.never rfl (pi_list (pe_cal c_l_some hr (pa_cons (pv 0) (pa_cons (pe_listRg rfl (by rfl) T.list (prg_1 (by rfl) T.range (pv 1))) (pa_cons pe_int pa_nil))))) (pg_name (i := 3) sc_l_choices.nd rfl (Or.inl rfl))
      (pss_cons (ps_set (i := 4) sc_l_choices.nd rfl (Or.inl rfl) (pe_cal c_l_some hr (pa_cons (pv 0) (pa_cons (pe_listRg rfl (by rfl) T.list (prg_1 (by rfl) T.range pe_int)) (pa_cons pe_int pa_nil)))))
    (pss_one (ps_asg (pe_ifExp (pt_cmpR (op_neNil hr.units) (pv 4) (pe_lst' pa_nil) (nomark _)) (pe_callTy call_tuple' (by rfl) T.tuple (by decide +kernel) (pa_cons (pe_callB cr_sortedI (by rfl) t_sorted (by decide +kernel) (pa_cons (pv 4) pa_nil)) pa_nil)) (pe_tup' (pa_cons (pe_cal c_l_draw hr (pa_cons (pv 0) (pa_cons pe_int pa_nil))) pa_nil))) (pg_sub (pv 2) (pv 3) (set_dict hr.u1))))))
    (pss_one (ps_ret (pv 2))))), ?_⟩
  refine fun F hF => ⟨_, rfl, _, rfl, _, rfl, RgOk.of_le (by decide) (by omega) (by decide) (by omega), fun rl hrl => ?_⟩
  rw [rgV_nvs]
  have s1 : Same H (upd (upd H F (.dK [])) rl (.lst (nvs (List.range n)))) := (same_new hF).trans (same_new hrl)
  have Frl : F ≠ rl := fun e => by rw [← e, upd_same] at hrl; cases hrl
  have hF1 : (upd (upd H F (.dK [])) rl (.lst (nvs (List.range n)))) F = some (.dK []) := by rw [upd_ne Frl, upd_same]
  have hr1 : (upd (upd H F (.dK [])) rl (.lst (nvs (List.range n)))) rl = some (.lst (nvs (List.range n))) := upd_same
  generalize upd (upd H F (.dK [])) rl (.lst (nvs (List.range n))) = H1 at s1 hF1 hr1 ⊢
  have pn1 := pn.same s1
  refine ⟨q, _, rl, _, 5, rfl, pn1, by omega, hr1, by rw [nvs_len, List.length_range]; omega, by decide, by decide, fun l H2 ys rest g2 n2 h2 pe2 yl2 => ?_⟩
  obtain ⟨ks, rfl, knd0, kb⟩ := drawn_cells pe2
  have kl : ks.length ≤ 5 := by rw [nvs_len] at yl2; omega
  have G2 := (Go.of pn s1).trans g2
  have nl : H l = none := s1.free n2
  have nlp := (pn.free nl).1
  have hF2 : H2 F = some (.dK []) := g2.kp _ _ (.inr fun l e => by cases e) hF1
  clear hr1 hF1 hrl Frl pe2
  refine ⟨l, rfl, ⟨_, SqL.of h2⟩, for_list (K := K) (a := l) (xs := nvs ks) (fun i σ' H' => ∃ v3 v4 rows ps, σ' = [some (.ref q.p), some (.int (n : Nat)), some (.ref F), v3, v4] ∧ Go q (m + 101 + 103 * i) H H' ∧ H' l = some (.lst (nvs ks)) ∧ H' F = some (.dK rows) ∧ Paired (RowV H') rows ps ∧ ps.map (·.1) = ks.take i ∧ (∀ p ∈ ps, p.2 ≠ []) ∧ (∀ p ∈ ps, p.2.Pairwise (· < ·)) ∧ ∀ p ∈ ps, ∀ z ∈ p.2, 0 ≤ z ∧ z < 8) ?_ ?_ ?_ ?_⟩
  · exact ⟨_, _, [], [], rfl, G2.mono (by omega), h2, hF2, .nil, rfl, fun p h => (by cases h), fun p h => (by cases h), fun p h => (by cases h)⟩
  · rintro i σ' H' _ ⟨_, _, _, _, rfl, _, h, _⟩
    exact SqL.of h
  · rintro i y σ' H3 hy ⟨v3, v4, rows, ps, rfl, g3, hl3, hF3, pr, pk, pn3, pa, pg⟩
    obtain ⟨il, rfl⟩ := nvs_lt hy
    have ki := kb _ (List.getElem_mem il)
    refine ⟨_, rfl, _, rfl, RgOk.of_le (by decide) (by decide) (by decide) (by decide), fun r8 hr8 => ?_⟩
    rw [show rgV 0 8 = nvs (List.range 8) from rgV_nvs 8]
    have s4 := same_new (o := .lst (nvs (List.range 8))) hr8
    have h48 : (upd H3 r8 (.lst (nvs (List.range 8)))) r8 = some (.lst (nvs (List.range 8))) := upd_same
    generalize upd H3 r8 (.lst (nvs (List.range 8))) = H4 at s4 h48 ⊢
    have g4 := g3.same s4
    refine ⟨q, _, r8, _, 8, rfl, g4.pen, by omega, h48, by rw [nvs_len, List.length_range]; decide, by decide, by decide, fun l5 H5 ys5 rest5 g5 n5 h5 pe5 yl5 => ?_⟩
    obtain ⟨ws, rfl, wnd, wb⟩ := drawn_cells pe5
    have G5 := g4.trans g5
    have pr5 := rows_kp g5.kp (rows_same s4 pr)
    have hl5 := g5.kp.lst nlp (s4 _ _ hl3)
    have hF5 : H5 F = some (.dK rows) := g5.kp _ _ (.inr fun l e => by cases e) (s4 _ _ hF3)
    have ki_new : (Sum.inl ((ks[i] : Nat) : Int) : L2.Key) ∉ rows.map (·.1) := fun mm => by
      rw [rows_keys pr] at mm
      obtain ⟨p, hp, e⟩ := List.mem_map.mp mm
      have e1 : p.1 = ks[i] := by injection e; omega
      have mk : ks[i] ∈ ks.take i := by rw [← pk, ← e1]; exact List.mem_map.mpr ⟨p, hp, rfl⟩
      obtain ⟨x, hx⟩ := List.mem_iff_getElem?.mp mk
      rw [List.getElem?_take] at hx
      by_cases c : x < i
      · rw [if_pos c] at hx
        obtain ⟨xl, hx2⟩ := List.getElem?_eq_some_iff.mp hx
        exact List.pairwise_iff_getElem.mp knd0 x i xl il c hx2
      · rw [if_neg c] at hx
        cases hx
    have rl := paired_len pr
    have pl : ps.length ≤ 5 := by
      rw [← List.length_map (as := ps) (f := (·.1)), pk, List.length_take]
      omega
    have tk : ks.take (i + 1) = ks.take i ++ [ks[i]] := by rw [List.take_add_one, List.getElem?_eq_getElem il]; rfl
    have key : ∀ (t : Addr) (ys : List Int) (J : Hp) (v4' : Option V), Go q (m + 101 + 103 * i + 102) H5 J → J t = some (.tup (ivs ys)) → ys ≠ [] → ys.Pairwise (· < ·) → (∀ z ∈ ys, 0 ≤ z ∧ z < 8) →
        gSub (tVar 2) (tVar 3) rSetD (.ref t) [some (.ref q.p), some (.int (n : Nat)), some (.ref F), some (.int ((ks[i] : Nat) : Int)), v4'] J (fun σ' H' => ∃ v3 v4 rows ps, σ' = [some (.ref q.p), some (.int (n : Nat)), some (.ref F), v3, v4] ∧ Go q (m + 101 + 103 * (i + 1)) H H' ∧ H' l = some (.lst (nvs ks)) ∧ H' F = some (.dK rows) ∧ Paired (RowV H') rows ps ∧ ps.map (·.1) = ks.take (i + 1) ∧ (∀ p ∈ ps, p.2 ≠ []) ∧ (∀ p ∈ ps, p.2.Pairwise (· < ·)) ∧ ∀ p ∈ ps, ∀ z ∈ p.2, 0 ≤ z ∧ z < 8) := fun t ys J v4' gJ ht ne asc rg => by
      have hFJ : J F = some (.dK rows) := gJ.kp _ _ (.inr fun l e => by cases e) hF5
      have hlJ := gJ.kp.lst nlp hl5
      have prJ := rows_kp gJ.kp pr5
      have FW : ∀ {b : Addr} {u : HO}, J b = some u → (∀ r, u ≠ .dK r) → b ≠ F := fun e ne z => by
        rw [z, hFJ] at e
        exact ne _ (Option.some.inj e).symm
      refine ⟨_, rfl, _, rfl, F, _, rfl, DPut.k (k := .inl ((ks[i] : Nat) : Int)) hFJ (szl (by omega)), ?_⟩
      rw [putK_snoc ki_new]
      refine ⟨_, _, rows ++ [(.inl ((ks[i] : Nat) : Int), .ref t)], ps ++ [(ks[i], ys)], rfl, (Go.mut pn hF (G5.trans gJ)).mono (by omega), by rw [upd_ne (FW hlJ (fun r z => by cases z))]; exact hlJ, upd_same, ?_, ?_, ?_, ?_, ?_⟩
      · exact paired_app (rows_upd hFJ (fun l z => by cases z) prJ) (.cons ⟨rfl, t, rfl, by rw [upd_ne (FW ht (fun r z => by cases z))]; exact ht⟩ .nil)
      · rw [List.map_append, pk, tk]
        rfl
      · intro p hp
        rcases List.mem_append.mp hp with hp | hp
        · exact pn3 p hp
        · rw [List.mem_singleton.mp hp]
          exact ne
      · intro p hp
        rcases List.mem_append.mp hp with hp | hp
        · exact pa p hp
        · rw [List.mem_singleton.mp hp]
          exact asc
      · intro p hp
        rcases List.mem_append.mp hp with hp | hp
        · exact pg p hp
        · rw [List.mem_singleton.mp hp]
          exact rg
    have p5 := g5.pen
    refine ⟨_, rfl, szr, fun e0 H6 n6 s6 h6 => ⟨l5, e0, ws.map (fun p => ((p : Nat) : Int)), rfl, rfl, s6 _ _ h5, h6, _, rfl, ?_⟩⟩
    cases ews : ws with
    | nil =>
      refine iteF ⟨_, rfl, q, _, 8, rfl, by decide, by decide, p5.same s6, by omega, fun d H7 d0 d1 g7 => ⟨szr, fun t H8 n8 s8 h8 => ?_⟩⟩
      exact key t [d] H8 _ (((Go.of p5 s6).trans (g7.same s8)).mono (by omega)) h8 (by simp) (List.pairwise_singleton _ _) (fun z hz => by rw [List.mem_singleton.mp hz]; exact ⟨d0, d1⟩)
    | cons w0 wr =>
      rw [← ews]
      have wne : ws ≠ [] := by rw [ews]; simp
      refine iteT' (by rw [ews]; rfl) ⟨_, rfl, l5, ws.map (fun p => ((p : Nat) : Int)), rfl, SqL.of (s6 _ _ h5), fun ys p7 perm asc np => ?_⟩
      refine ⟨p7, _, rfl, .inl upd_same, fun t H8 s8 h8 => ?_⟩
      have ynd : ys.Nodup := perm.nodup_iff.mpr (List.pairwise_map.mpr (wnd.imp fun {a b} z e => z (by omega)))
      refine key t ys H8 _ ((Go.of p5 ((s6.trans (same_new np)).trans s8)).mono (by omega)) h8 (fun z => ?_) (List.Pairwise.imp₂ (fun a b (h1 : a ≤ b) (h2 : a ≠ b) => by omega) asc ynd) fun z hz => ?_
      · rw [z] at perm
        have := List.Perm.nil_eq perm
        rw [ews] at this
        cases this
      · obtain ⟨x, hx, rfl⟩ := List.mem_map.mp (perm.mem_iff.mp hz)
        have := wb x hx
        omega
  · rintro σ' H6 ⟨v3, v4, rows, ps, rfl, g6, hl6, hF6, pr, pk, pn1, pa, pg⟩
    rw [nvs_len, List.take_length] at pk
    have pl : ps.length ≤ 5 := by rw [← List.length_map (as := ps) (f := (·.1)), pk]; exact kl
    have il5 : (nvs ks).length ≤ 5 := by rw [nvs_len]; exact kl
    refine ⟨_, rfl, k F H6 ps (g6.mono (by omega)) hF ⟨rows, hF6, pr⟩ ⟨by rw [pk]; exact knd0, fun p hp => ?_, pn1, pa, pg⟩ pl⟩
    exact kb _ (by rw [← pk]; exact List.mem_map.mpr ⟨p, hp, rfl⟩)
end
end Af

set_option Elab.async false
set_option linter.all false
set_option maxRecDepth 100000
set_option maxHeartbeats 8000000
namespace Af
open PySem L2
abbrev s_l_both : Stmt := top 29
abbrev N_l_both : List Str := ["_law_one", "_law_other", "_law_found", "_law_spot", "_law_every", "_law_some_here", "_law_k"]
theorem sc_l_both : FnScope N_l_both ["_law_one", "_law_other"] (defScope s_l_both) := ⟨rfl, rfl, rfl, by decide +kernel, rfl, by decide +kernel, by decide +kernel⟩

def rEqNil : R2 := fun x y H Q => ∃ a b ns, x = .ref a ∧ y = .ref b ∧ H a = some (.lst (ivs ns)) ∧ H b = some (.lst []) ∧ Q (.bl ns.isEmpty) H
theorem op_eqNil {X : Cx} (hu : X.A.units + 64 < cLine) : OpR X (compareOp .Eq) rEqNil := op_imp (op_eqD hu) fun x y H Q h => by
  obtain ⟨a, b, ns, rfl, rfl, h1, h2, q⟩ := h
  refine ⟨.list (dvs ns), .list [], .lst (SqL.of h1) (dp_ints ns), .lst (SqL.of h2) .nil, ?_, by decide, ?_⟩
  · show (PyData.canLayAll0 (dvs ns) && decide (PyData.depthAll (dvs ns) + 1 ≤ 64)) = true
    rw [lay_ints, decide_eq_true (by have : PyData.depthAll (dvs ns) = 0 := deep_ints ns; omega)]
    rfl
  · have e : PyData.eqv (.list (dvs ns)) (.list []) = ns.isEmpty := by cases ns <;> rfl
    rw [e]
    exact q
theorem srt_uniq : ∀ {a b : List Int}, a.Perm b → a.Pairwise (· ≤ ·) → b.Pairwise (· ≤ ·) → a = b
  | [], b, p, _, _ => (List.nil_perm.mp p).symm
  | x :: xs, b, p, ha, hb => by
    cases b with
    | nil => exact absurd p.length_eq (by simp)
    | cons y ys =>
      have e : x = y := by
        have m1 : x ∈ y :: ys := p.mem_iff.mp List.mem_cons_self
        have m2 : y ∈ x :: xs := p.mem_iff.mpr List.mem_cons_self
        rcases List.mem_cons.mp m1 with e | m1
        · exact e
        · rcases List.mem_cons.mp m2 with e | m2
          · exact e.symm
          · have := (List.pairwise_cons.mp ha).1 y m2
            have := (List.pairwise_cons.mp hb).1 x m1
            omega
      subst e
      rw [srt_uniq p.cons_inv (List.pairwise_cons.mp ha).2 (List.pairwise_cons.mp hb).2]
theorem cell_filter {xs : List Int} (asc : xs.Pairwise (· < ·)) (rg : ∀ z ∈ xs, 0 ≤ z ∧ z < 8) : (A8.filter fun z => xs.contains z) = xs := by
  have a8 : A8.Pairwise (· < ·) := by decide
  have nd8 : A8.Nodup := by decide
  refine srt_uniq ((List.perm_ext_iff_of_nodup (nd8.filter _) (asc.imp fun {a b} h => by omega)).mpr fun z => ?_) ((a8.filter _).imp fun {a b} h => by omega) (asc.imp fun {a b} h => by omega)
  rw [List.mem_filter]
  constructor
  · exact fun h => by simpa using h.2
  · intro h
    have := rg z h
    refine ⟨?_, by simpa using h⟩
    unfold A8
    simp only [List.mem_cons, List.not_mem_nil, or_false]
    omega
theorem gP_asc {n : Nat} {ps : Ptn} (o : OkPt n ps) (k : Nat) : (gP ps k).Pairwise (· < ·) ∧ ∀ z ∈ gP ps k, 0 ≤ z ∧ z < 8 := by
  unfold gP
  cases e : ps.lookup k with
  | none => exact ⟨(by decide : A8.Pairwise (· < ·)), (by decide : ∀ z ∈ A8, 0 ≤ z ∧ z < 8)⟩
  | some ws =>
    have m := lookup_mem e
    exact ⟨o.asc _ m, o.rg _ m⟩
theorem cut_same {n : Nat} {ps qs : Ptn} (o : OkPt n ps) (k : Nat) : (A8.filter fun z => (gP ps k).contains z && (gP qs k).contains z) = cutP ps qs k := by
  obtain ⟨h1, h2⟩ := gP_asc o k
  unfold cutP
  conv => rhs; rw [← cell_filter h1 h2]
  rw [List.filter_filter]
  congr 1
  funext z
  exact Bool.and_comm _ _
def keysL (ps qs : Ptn) : List Nat := ps.map (·.1) ++ (qs.map (·.1)).filter fun k => !(ps.lookup k).isSome
theorem lookup_iff {ps : Ptn} {k : Nat} : (ps.lookup k).isSome = true ↔ k ∈ ps.map (·.1) := by
  induction ps with
  | nil => simp
  | cons p ps ih =>
    obtain ⟨pk, pw⟩ := p
    rw [List.lookup_cons, List.map_cons, List.mem_cons]
    by_cases c : k = pk
    · subst c
      rw [beq_self_eq_true]
      simp
    · rw [show (k == pk) = false by simpa using c]
      rw [← ih]
      simp [c]
theorem keys_perm {n : Nat} {ps qs : Ptn} (oa : OkPt n ps) (ob : OkPt n qs) : (keysL ps qs).Perm ((List.range n).filter (inP ps qs)) := by
  unfold keysL
  refine (List.perm_ext_iff_of_nodup (List.nodup_append.mpr ⟨oa.nd, ob.nd.filter _, fun a ha b hb e => ?_⟩) (List.nodup_range.filter _)).mpr fun k => ?_
  · subst e
    have := (List.mem_filter.mp hb).2
    rw [lookup_iff.mpr ha] at this
    cases this
  · rw [List.mem_append, List.mem_filter, List.mem_filter, List.mem_range]
    unfold inP
    rw [Bool.or_eq_true, lookup_iff, lookup_iff]
    have lt : ∀ {rs : Ptn}, OkPt n rs → k ∈ rs.map (·.1) → k < n := fun o m => by
      obtain ⟨p, hp, rfl⟩ := List.mem_map.mp m
      exact o.kb p hp
    constructor
    · rintro (h | ⟨h, _⟩)
      · exact ⟨lt oa h, .inl h⟩
      · exact ⟨lt ob h, .inr h⟩
    · rintro ⟨_, h⟩
      by_cases c : k ∈ ps.map (·.1)
      · exact .inl c
      · rcases h with h | h
        · exact .inl h
        · refine .inr ⟨h, ?_⟩
          have : ¬ (ps.lookup k).isSome = true := fun z => c (lookup_iff.mp z)
          cases e : (ps.lookup k).isSome with
          | false => rfl
          | true => exact absurd e this
theorem range_srt (n : Nat) (f : Nat → Bool) : (((List.range n).filter f).map fun k => ((k : Nat) : Int)).Pairwise (· ≤ ·) := by
  refine List.pairwise_map.mpr ?_
  have := (List.pairwise_lt_range (n := n)).filter f
  exact this.imp fun {a b} h => by omega
theorem get_valL {K : PySem.W.Frag} {H : Hp} {a e : Addr} {rows : List (L2.Key × V)} {ps : Ptn} (ha : H a = some (.dK rows)) (h : Paired (RowV H) rows ps) (he : H e = some (.lst (ivs A8))) (k : Nat) :
    ∃ o, DGet H a (.int (k : Int)) o ∧ ∃ t, o.getD (.ref e) = .ref t ∧ (SqL K H t (ivs (gP ps k)) ∨ SqT K H t (ivs (gP ps k))) := by
  unfold gP
  rcases rows_val h k with ⟨h1, h2⟩ | ⟨ws, t, h1, h2, h3, h4⟩
  · refine ⟨none, .inl ⟨rows, .inl (k : Int), .inl ha, rfl, h2.symm⟩, e, rfl, ?_⟩
    rw [h1]
    exact .inl (SqL.of he)
  · refine ⟨some (.ref t), .inl ⟨rows, .inl (k : Int), .inl ha, rfl, h2.symm⟩, t, rfl, ?_⟩
    rw [h1]
    exact .inr (SqT.of h3)
theorem keysV {H : Hp} {rows : List (L2.Key × V)} {ps : Ptn} (h : Paired (RowV H) rows ps) : (rows.map fun kv => kV kv.1) = nvs (ps.map (·.1)) := by
  have e := rows_keys h
  have : (rows.map fun kv => kV kv.1) = (rows.map (·.1)).map kV := by rw [List.map_map]; rfl
  rw [this, e, List.map_map]
  unfold nvs ivs
  rw [List.map_map, List.map_map]
  rfl
theorem nvs_app (a b : List Nat) : nvs a ++ nvs b = nvs (a ++ b) := by
  unfold nvs ivs
  rw [List.map_append, List.map_append]
theorem filt_snoc {α : Type} (f : α → Bool) (l : List α) (x : α) : (l ++ [x]).filter f = l.filter f ++ (if f x = true then [x] else []) := by
  rw [List.filter_append, List.filter_cons]
  by_cases c : f x = true
  · rw [if_pos c, if_pos c]; rfl
  · rw [if_neg c, if_neg c]; rfl
def sp_lboth : Sp := fun vs H Q _ => ∃ (a b : Addr) (n : Nat) (ps qs : Ptn), vs = [.ref a, .ref b] ∧ PatV H a ps ∧ PatV H b qs ∧ OkPt n ps ∧ OkPt n qs ∧ n ≤ 24 ∧ ∀ v H', Same H H' → MetV H' v (bothP ps qs (List.range n)) → Q v H'
section
variable {P : Program} {w : World} {K : PySem.W.Frag} {mg : Str → Option Value} {base : Heap}
theorem ok_lboth {f : Addr} {fd : FuncData} (F : Fun K "_law_both" "_law_both" s_l_both f fd) (T : Txt mg) (t_sorted : mg "sorted" = none) : FnOk P w K mg base CX0 1 f fd ["_law_one", "_law_other"] sp_lboth := by
  refine F.ok sc_l_both (fun vs H Q E h => ?_) (fun cdv A outer s H vs Q E hr h => ?_)
  · obtain ⟨_, _, _, _, _, rfl, _⟩ := h
    rfl
  obtain ⟨a, b, n, ps, qs, rfl, ha, hb, oa, ob, n24, k⟩ := h
  refine ⟨_, (pss_cons (ps_set (i := 2) sc_l_both.nd rfl (Or.inl rfl) pe_dnewK)
    (pss_cons (ps_for PassesOwn.never rfl (pi_list (pe_callB cr_sortedI (by rfl) t_sorted (by decide +kernel) (pa_cons (pe_op op_cat' (pe_callTy (call_listD rfl) (by rfl) T.list (by decide +kernel) (pa_cons (pv 0) pa_nil)) (pe_lock (pe_lc (own := [("_law_spot", 3)]) (g := (gName 3)) rfl sc_l_both.nd (pi_keys (pv 1)) (blkOk_by (own := [("_law_spot", 3)]) (N := N_l_both) (sc := defScope s_l_both) (by decide +kernel)) (fun _ _ _ _ _ => pg_name (i := 3) sc_l_both.nd rfl (Or.inl rfl)) (fun _ _ _ _ _ => (pts_one (pt_cmp (pc_dnotin hr.u1 (pv 3) (pv 0))))) (fun _ _ _ _ _ => (pv 3))))) pa_nil))) (pg_name (i := 3) sc_l_both.nd rfl (Or.inr rfl))
      (pss_cons (ps_set (i := 4) sc_l_both.nd rfl (Or.inr rfl) (pe_listRg rfl (by rfl) T.list (prg_1 (by rfl) T.range pe_int)))
    (pss_cons (ps_setLc (i := 5) (own := [("_law_k", 6)]) (g := (gName 6)) rfl sc_l_both.nd rfl rfl (sw_true rfl rfl rfl (by decide +kernel)) (pi_list (pv 4)) (blkOk_by (own := [("_law_k", 6)]) (N := N_l_both) (sc := defScope s_l_both) (by decide +kernel)) (fun _ _ _ _ _ => pg_name (i := 6) sc_l_both.nd rfl (Or.inl rfl)) (fun _ _ _ _ _ => (pts_one (PW.pt (pw_and (pt_cmpR (op_inK (K := K) rfl) (pv 6) (pe_dget2 hr.u1 (pv 0) (pv 3) (pv 4) ⟨rfl, rfl, rfl, rfl⟩) (by rfl)) (pw_and1 (pt_cmpR (op_inK (K := K) rfl) (pv 6) (pe_dget2 hr.u1 (pv 1) (pv 3) (pv 4) ⟨rfl, rfl, rfl, rfl⟩) (by rfl))))))) (fun _ _ _ _ _ => (pv 6)))
    (pss_cons (ps_if (pt_cmpR (op_eqNil hr.units) (pv 5) (pe_lst' pa_nil) (nomark _))
      (pss_one (ps_ret pe_non))
      pss_nil)
    (pss_one (ps_asg (pe_callTy call_tuple' (by rfl) T.tuple (by decide +kernel) (pa_cons (pv 5) pa_nil)) (pg_sub (pv 2) (pv 3) (set_dict hr.u1))))))))
    (pss_one (ps_ret (pv 2))))), ?_⟩
  refine fun F hF => ?_
  have s1 := same_new (o := .dK []) hF
  have hF1 : (upd H F (.dK [])) F = some (.dK []) := upd_same
  generalize upd H F (.dK []) = H1 at s1 hF1 ⊢
  obtain ⟨ra, ha1, pa⟩ := (ha.same s1).ex
  obtain ⟨rb, hb1, pb⟩ := (hb.same s1).ex
  refine ⟨_, rfl, a, ra, rfl, .inl ha1, fun l1 hl1 => ?_⟩
  have h1l : (upd H1 l1 (.lst (ra.map fun kv => kV kv.1))) l1 = some (.lst (nvs (ps.map (·.1)))) := by rw [upd_same, keysV pa]
  have s2 := same_new (o := .lst (ra.map fun kv => kV kv.1)) hl1
  generalize upd H1 l1 (.lst (ra.map fun kv => kV kv.1)) = H2 at s2 h1l ⊢
  have ha2 := s2 _ _ ha1
  have hb2 := s2 _ _ hb1
  refine ⟨b, _, hb2, True.intro, fun od => ⟨_, rfl, b, od, rfl, .inl ⟨rb, upd_same, fun D hD => lc_it (walk_keys (d := b) (o := od) (kvs := rb)) (fun i H' => Same (upd H2 b (.frz od (.dK rb))) H' ∧ H' D = some (.lst (nvs (((qs.map (·.1)).take i).filter fun k => !(ps.lookup k).isSome)))) ?_ ?_ ?_ ?_⟩⟩⟩
  · exact ⟨same_new hD, upd_same⟩
  · rintro i H' _ ⟨s3, _⟩
    exact s3 _ _ upd_same
  · rintro i x H' H3 hi ⟨s3, h3⟩ ⟨rfl, ky, v, hy, rfl⟩
    obtain ⟨p, hp, e1, -⟩ := Af.paired_get pb hy
    have e1 : ky = .inl ((p.1 : Nat) : Int) := e1
    subst e1
    have tk : (qs.map (·.1)).take (i + 1) = (qs.map (·.1)).take i ++ [p.1] := by rw [List.take_succ, List.getElem?_map, hp]; rfl
    have rd : Rd H3 a (.dK ra) := by
      by_cases c : a = b
      · subst c
        rw [ha2] at hb2
        cases hb2
        exact .inr ⟨od, s3 _ _ upd_same⟩
      · exact .inl (s3 _ _ (by rw [upd_ne c]; exact ha2))
    have rv : ∃ o, valV ra (.inl ((p.1 : Nat) : Int)) = o ∧ o.isSome = (ps.lookup p.1).isSome := by
      rcases rows_val pa p.1 with ⟨h1, h2⟩ | ⟨ws, t, h1, h2, _, _⟩
      · exact ⟨_, h2, by rw [h1]; rfl⟩
      · exact ⟨_, h2, by rw [h1]; rfl⟩
    obtain ⟨o, ov, os⟩ := rv
    refine ⟨rfl, _, rfl, _, rfl, a, o, rfl, .inl ⟨ra, .inl ((p.1 : Nat) : Int), rd, rfl, ov.symm⟩, _, rfl, ?_⟩
    rw [os]
    have lf : (((qs.map (·.1)).take i).filter fun k => !(ps.lookup k).isSome).length ≤ 24 := by
      refine Nat.le_trans (List.length_filter_le _ _) ?_
      have := okpt_len ob
      rw [List.length_take, List.length_map]
      omega
    refine ite2 (fun c => ?_) (fun c => ?_)
    · refine ⟨_, rfl, _, h3, szl (by rw [nvs_len]; omega), same_mut s3 hD, ?_⟩
      rw [upd_same, tk, filt_snoc, if_pos (by first | exact c | simpa using c), ← nvs_app]
      rfl
    · refine ⟨s3, ?_⟩
      rw [tk, filt_snoc, if_neg (by first | exact c | (rw [c]; decide)), List.append_nil]
      exact h3
  rintro H3 ⟨s3, h3⟩
  have lrb : rb.length = (qs.map (·.1)).length := by rw [List.length_map]; exact paired_len pb
  rw [lrb, List.take_length] at h3
  have S3 := lock_same hb2 s3
  have nDb : D ≠ b := fun z => by
    rw [z, upd_same] at hD
    cases hD
  have h3' : (upd H3 b (.dK rb)) D = some (.lst _) := (upd_ne nDb).trans h3
  have hb3 := s3 _ _ upd_same
  refine ⟨hb3, ?_⟩
  generalize upd H3 b (.dK rb) = H4 at S3 h3' ⊢
  have la := okpt_len oa
  have lb := okpt_len ob
  refine ⟨l1, D, _, _, rfl, rfl, S3 _ _ h1l, h3', ?_, fun l5 H5 n5 s5 h5 => ?_⟩
  · refine sz ?_
    rw [nvs_len, nvs_len, List.length_map]
    have := List.length_filter_le (fun k => !(ps.lookup k).isSome) (qs.map (·.1))
    rw [List.length_map] at this
    omega
  rw [nvs_app] at h5
  refine ⟨l5, (keysL ps qs).map (fun k => ((k : Nat) : Int)), rfl, SqL.of h5, fun S p perm asc np => ?_⟩
  obtain ⟨L, eL⟩ : ∃ L, L = (List.range n).filter (inP ps qs) := ⟨_, rfl⟩
  have eS : S = L.map fun k => ((k : Nat) : Int) := by
    rw [eL]
    exact srt_uniq (perm.trans ((keys_perm oa ob).map _)) asc (range_srt _ _)
  have eM : S.map V.int = nvs L := by rw [eS]; rfl
  rw [eM]
  have Lnd : L.Nodup := by rw [eL]; exact List.nodup_range.filter _
  have L24 : L.length ≤ 24 := by
    rw [eL]
    have := List.length_filter_le (inP ps qs) (List.range n)
    rw [List.length_range] at this
    omega
  have eB : bothP ps qs (List.range n) = L.map fun k => (k, cutP ps qs k) := by rw [eL]; rfl
  rw [eB] at k
  clear perm asc eS eM eL eB
  have s6 := same_new (o := .lst (nvs L)) np
  have h6 : (upd H5 p (.lst (nvs L))) p = some (.lst (nvs L)) := upd_same
  generalize upd H5 p (.lst (nvs L)) = H6 at s6 h6 ⊢
  have S6 : Same H1 H6 := s2.trans (S3.trans (s5.trans s6))
  have hF6 := S6 _ _ hF1
  have ha6 := S6 _ _ ha1
  have hb6 := S6 _ _ hb1
  have pa6 := rows_same S6 pa
  have pb6 := rows_same S6 pb
  have SH : Same H H6 := s1.trans S6
  have nF : H F = none := hF
  clear ha1 hb1 pa pb hF1 S6 s6 s5 S3 s2 h1l hl1 ha2 hb2 h3 h3' hb3 s3 np h5 n5 lrb nDb s1
  refine ⟨p, rfl, ⟨_, SqL.of h6⟩, for_list (K := K) (a := p) (xs := nvs L) (fun i σ' H' => ∃ v3 v4 v5 rows, σ' = [some (.ref a), some (.ref b), some (.ref F), v3, v4, v5, none] ∧ Same H H' ∧ H' a = some (.dK ra) ∧ H' b = some (.dK rb) ∧ Paired (RowV H') ra ps ∧ Paired (RowV H') rb qs ∧ H' p = some (.lst (nvs L)) ∧ H' F = some (.dK rows) ∧ Paired (RowV H') rows ((L.take i).map fun k => (k, cutP ps qs k)) ∧ ∀ k ∈ L.take i, cutP ps qs k ≠ []) ?_ ?_ ?_ ?_⟩
  · exact ⟨_, _, _, [], rfl, SH, ha6, hb6, pa6, pb6, h6, hF6, .nil, fun k hk => by cases hk⟩
  · rintro i σ' H' _ ⟨_, _, _, _, rfl, _, _, _, _, _, h, _⟩
    exact SqL.of h
  · rintro i y σ' J hy ⟨v3, v4, v5, rows, rfl, sJ, haJ, hbJ, paJ, pbJ, hpJ, hFJ, prJ, neJ⟩
    obtain ⟨il, rfl⟩ := nvs_lt hy
    obtain ⟨kk, ekk⟩ : ∃ kk, kk = L[i] := ⟨_, rfl⟩
    rw [← ekk]
    refine ⟨_, rfl, RgOk.of_le (by decide) (by decide) (by decide) (by decide), fun e he => ?_⟩
    have s7 := same_new (o := .lst (rgV 0 8)) he
    have h7 : (upd J e (.lst (rgV 0 8))) e = some (.lst (ivs A8)) := upd_same
    generalize upd J e (.lst (rgV 0 8)) = J1 at s7 h7 ⊢
    refine ⟨_, rfl, e, rfl, ⟨_, SqL.of h7⟩, fun D hD => lc_list (K := K) (a := e) (xs := ivs A8) (fun j H' => Same J1 H' ∧ H' D = some (.lst (ivs ((A8.take j).filter fun z => (gP ps kk).contains z && (gP qs kk).contains z)))) ?_ ?_ ?_ ?_⟩
    · exact ⟨same_new hD, upd_same⟩
    · rintro j H' _ ⟨s8, _⟩
      exact SqL.of (s8 _ _ h7)
    · rintro j x J2 hx ⟨s8, h8⟩
      obtain ⟨z, hz, rfl⟩ : ∃ z, A8[j]? = some z ∧ x = .int z := by
        unfold ivs at hx
        rw [List.getElem?_map] at hx
        cases e : A8[j]? with
        | none => rw [e] at hx; cases hx
        | some z => rw [e] at hx; exact ⟨z, rfl, (Option.some.inj hx).symm⟩
      have tk : A8.take (j + 1) = A8.take j ++ [z] := by rw [List.take_succ, hz]; rfl
      have S8 := s7.trans s8
      obtain ⟨o1, g1, t1, r1, q1⟩ := get_valL (K := K) (S8 _ _ haJ) (rows_same S8 paJ) (s8 _ _ h7) kk
      obtain ⟨o2, g2, t2, r2, q2⟩ := get_valL (K := K) (S8 _ _ hbJ) (rows_same S8 pbJ) (s8 _ _ h7) kk
      have lf : ((A8.take j).filter fun z => (gP ps kk).contains z && (gP qs kk).contains z).length ≤ 8 := Nat.le_trans (List.length_filter_le _ _) (by rw [List.length_take]; exact Nat.min_le_right _ _)
      have no : ((gP ps kk).contains z && (gP qs kk).contains z) = false → Same J1 J2 ∧ J2 D = some (.lst (ivs ((A8.take (j + 1)).filter fun z => (gP ps kk).contains z && (gP qs kk).contains z))) := fun c => by
        refine ⟨s8, ?_⟩
        rw [tk, filt_snoc, if_neg (by rw [c]; decide), List.append_nil]
        exact h8
      refine ⟨rfl, _, rfl, _, rfl, a, rfl, .inl ⟨ra, .inl (S8 _ _ haJ)⟩, _, rfl, _, rfl, o1, g1, ?_⟩
      rw [r1]
      refine ⟨t1, _, rfl, q1, rfl, flat_ivs _, _, rfl, ?_⟩
      rw [in_ivs]
      cases c1 : (gP ps kk).contains z with
      | false => exact no (by rw [c1]; rfl)
      | true =>
        refine ⟨_, rfl, _, rfl, b, rfl, .inl ⟨rb, .inl (S8 _ _ hbJ)⟩, _, rfl, _, rfl, o2, g2, ?_⟩
        rw [r2]
        refine ⟨t2, _, rfl, q2, rfl, flat_ivs _, _, rfl, ?_⟩
        rw [in_ivs]
        cases c2 : (gP qs kk).contains z with
        | false => exact no (by rw [c1, c2]; rfl)
        | true =>
          refine ⟨_, rfl, _, h8, szl (by rw [ivs_len]; omega), same_mut s8 hD, ?_⟩
          rw [upd_same, tk, filt_snoc, if_pos (by rw [c1, c2]; rfl)]
          unfold ivs
          rw [List.map_append]
          rfl
    · rintro J2 ⟨s8, h8⟩
      rw [ivs_len, List.take_length, cut_same oa] at h8
      have S8 := s7.trans s8
      refine ⟨_, rfl, szr, fun e0 J3 n9 s9 h9 => ⟨D, e0, _, rfl, rfl, s9 _ _ h8, h9, _, rfl, ?_⟩⟩
      have S9 := S8.trans s9
      have tL : L.take (i + 1) = L.take i ++ [kk] := by rw [List.take_succ, List.getElem?_eq_getElem il, ← ekk]; rfl
      cases ec : cutP ps qs kk with
      | nil =>
        refine k .non J3 (sJ.trans S9) ?_
        unfold MetV
        rw [if_pos]
        unfold noneP
        rw [List.any_eq_true]
        exact ⟨(kk, cutP ps qs kk), List.mem_map.mpr ⟨kk, by rw [ekk]; exact List.getElem_mem il, rfl⟩, by show (cutP ps qs kk).isEmpty = true; rw [ec]; rfl⟩
      | cons z0 zr =>
        rw [← ec]
        have nec : cutP ps qs kk ≠ [] := by rw [ec]; simp
        refine iteF' (by rw [ec]; rfl) ⟨_, rfl, D, _, rfl, .inl (s9 _ _ h8), fun t J4 s10 h10 => ?_⟩
        have S10 := S9.trans s10
        have hFX := S10 _ _ hFJ
        have prX := rows_same S10 prJ
        have FW : ∀ {b : Addr} {u : HO}, J4 b = some u → (∀ r, u ≠ .dK r) → b ≠ F := fun e ne z => by
          rw [z, hFX] at e
          exact ne _ (Option.some.inj e).symm
        have dF : ∀ {c : Addr} {o : HO}, H c = some o → c ≠ F := fun e z => by rw [z, nF] at e; cases e
        have nw : (Sum.inl ((kk : Nat) : Int) : L2.Key) ∉ rows.map (·.1) := fun mm => by
          rw [rows_keys prJ] at mm
          obtain ⟨p, hp, e⟩ := List.mem_map.mp mm
          obtain ⟨x, hx, rfl⟩ := List.mem_map.mp hp
          have e1 : x = kk := by injection e with e; have e : ((x : Nat) : Int) = ((kk : Nat) : Int) := e; omega
          rw [e1, ekk] at hx
          obtain ⟨y, hy⟩ := List.mem_iff_getElem?.mp hx
          rw [List.getElem?_take] at hy
          by_cases c : y < i
          · rw [if_pos c] at hy
            obtain ⟨yl, hy2⟩ := List.getElem?_eq_some_iff.mp hy
            exact List.pairwise_iff_getElem.mp Lnd y i yl il c hy2
          · rw [if_neg c] at hy
            cases hy
        have rl : rows.length ≤ 24 := by
          rw [paired_len prJ, List.length_map, List.length_take]
          omega
        refine ⟨_, rfl, _, rfl, F, _, rfl, DPut.k (k := .inl ((kk : Nat) : Int)) hFX (szl (by omega)), ?_⟩
        rw [putK_snoc nw]
        obtain ⟨ra0, ha0, _⟩ := ha.ex
        obtain ⟨rb0, hb0, _⟩ := hb.ex
        refine ⟨_, _, _, rows ++ [(.inl ((kk : Nat) : Int), .ref t)], rfl, same_mut (sJ.trans S10) nF, by rw [upd_ne (dF ha0)]; exact S10 _ _ haJ, by rw [upd_ne (dF hb0)]; exact S10 _ _ hbJ, rows_upd hFX (fun l z => by cases z) (rows_same S10 paJ), rows_upd hFX (fun l z => by cases z) (rows_same S10 pbJ), by rw [upd_ne (FW (S10 _ _ hpJ) (fun r z => by cases z))]; exact S10 _ _ hpJ, upd_same, ?_, ?_⟩
        · rw [tL, List.map_append]
          exact paired_app (rows_upd hFX (fun l z => by cases z) prX) (.cons ⟨rfl, t, rfl, by rw [upd_ne (FW h10 (fun r z => by cases z))]; exact h10⟩ .nil)
        · intro x hx
          rw [tL] at hx
          rcases List.mem_append.mp hx with hx | hx
          · exact neJ x hx
          · rw [List.mem_singleton.mp hx]
            exact nec
  · rintro σ' J ⟨v3, v4, v5, rows, rfl, sJ, haJ, hbJ, paJ, pbJ, hpJ, hFJ, prJ, neJ⟩
    rw [nvs_len, List.take_length] at prJ neJ
    refine ⟨_, rfl, k _ J sJ ?_⟩
    unfold MetV
    rw [if_neg]
    · exact ⟨F, rfl, rows, hFJ, prJ⟩
    · unfold noneP
      intro z
      rw [List.any_eq_true] at z
      obtain ⟨p, hp, e⟩ := z
      obtain ⟨x, hx, rfl⟩ := List.mem_map.mp hp
      exact neJ x hx (List.isEmpty_iff.mp e)
end
end Af

set_option Elab.async false
set_option linter.all false
set_option maxRecDepth 100000
set_option maxHeartbeats 4000000
namespace Af
open PySem L2
/-! two lists of the same flat things -/
theorem items_eq {A : Around} {s : Shared} : ∀ {xs : List V} {us ws : List Value}, (∀ v ∈ xs, flatB v = true) → Vals xs us → Vals xs ws → ∀ j (h1 : j < us.length) (h2 : j < ws.length), SeqAt.EqAt A s us[j] ws[j] true
  | [], _, _, _, r1, _, j, h1, _ => by
    cases r1
    exact absurd h1 (Nat.not_lt_zero j)
  | x :: xs, _, _, f, r1, r2, j, h1, h2 => by
    cases r1 with
    | cons a1 b1 =>
      cases r2 with
      | cons a2 b2 =>
        cases j with
        | zero => exact eqAt_same a1 a2 (f x List.mem_cons_self)
        | succ j => exact items_eq (fun v m => f v (List.mem_cons_of_mem _ m)) b1 b2 j (Nat.lt_of_succ_lt_succ h1) (Nat.lt_of_succ_lt_succ h2)
theorem all_yes (n : Nat) : ((List.range n).all fun _ => true) = true := List.all_eq_true.mpr fun _ _ => rfl
def rEqFl (r : Bool) : R2 := fun x y H Q => ∃ a b xs, x = .ref a ∧ y = .ref b ∧ H a = some (.lst xs) ∧ H b = some (.lst xs) ∧ (∀ v ∈ xs, flatB v = true) ∧ Q (.bl r) H
section
variable {X : Cx}
theorem op_eqFl (hu : X.A.units + 64 < cLine) : OpR X (compareOp .Eq) (rEqFl true) := by
  intro pins s σ H x y v u Q I rx ry h
  obtain ⟨a, b, xs, rfl, rfl, ha, hb, f, q⟩ := h
  cases (show v = Value.ref a from rx)
  cases (show u = Value.ref b from ry)
  obtain ⟨us, r1, p1, _⟩ := I.list (SqL.of ha)
  obtain ⟨ws, r2, p2, _⟩ := I.list (SqL.of hb)
  have hsz : us.toArray.size = ws.toArray.size := by
    rw [List.size_toArray, List.size_toArray, ← r1.length, ← r2.length]
  refine SeqAt.RcAt.lists (e := fun _ => true) p1.isList p2.isList hsz (A := X.A) (by omega) (fun j h1 h2 => ?_) _ _ _ _ ?_
  · have k := items_eq (A := X.A.in1) (s := s) f r1 r2 j (by simpa using h1) (by simpa using h2)
    simpa using k
  · rw [all_yes]
    exact ⟨.bl true, H, I, rfl, q⟩
theorem op_neFl (hu : X.A.units + 64 < cLine) : OpR X (compareOp .NotEq) (rEqFl false) := by
  intro pins s σ H x y v u Q I rx ry h
  obtain ⟨a, b, xs, rfl, rfl, ha, hb, f, q⟩ := h
  cases (show v = Value.ref a from rx)
  cases (show u = Value.ref b from ry)
  obtain ⟨us, r1, p1, _⟩ := I.list (SqL.of ha)
  obtain ⟨ws, r2, p2, _⟩ := I.list (SqL.of hb)
  have hsz : us.toArray.size = ws.toArray.size := by
    rw [List.size_toArray, List.size_toArray, ← r1.length, ← r2.length]
  refine SeqAt.RcNeAt.lists (e := fun _ => true) p1.isList p2.isList hsz (A := X.A) (by omega) (fun j h1 h2 => ?_) _ _ _ _ ?_
  · have k := items_eq (A := X.A.in1) (s := s) f r1 r2 j (by simpa using h1) (by simpa using h2)
    simpa using k
  · rw [all_yes]
    exact ⟨.bl false, H, I, rfl, q⟩
end
end Af

set_option Elab.async false
set_option linter.all false
set_option maxRecDepth 100000
set_option maxHeartbeats 8000000
namespace Af
open PySem L2
abbrev s_l_odd : Stmt := top 26
abbrev N_l_odd : List Str := []
theorem sc_l_odd : FnScope N_l_odd [] (defScope s_l_odd) := ⟨rfl, rfl, rfl, by decide +kernel, rfl, by decide +kernel, by decide +kernel⟩

theorem al_nil {S : PyData → Prop} : ∀ y ∈ ([] : List PyData), S y := fun y hy => by cases hy
theorem al_cons {S : PyData → Prop} {x : PyData} {xs : List PyData} (h : S x) (t : ∀ y ∈ xs, S y) : ∀ y ∈ x :: xs, S y := fun y hy => by
  rcases List.mem_cons.mp hy with rfl | hy
  · exact h
  · exact t y hy
theorem al_app {S : PyData → Prop} {xs ys : List PyData} (h : ∀ y ∈ xs, S y) (t : ∀ y ∈ ys, S y) : ∀ y ∈ xs ++ ys, S y := fun y hy => by
  rcases List.mem_append.mp hy with hy | hy
  · exact h y hy
  · exact t y hy
theorem al_cut {S : PyData → Prop} {xs : List PyData} {lo hi : Option Int} (h : ∀ y ∈ xs, S y) : ∀ y ∈ cutD xs lo hi, S y := fun y hy => h y (List.mem_of_mem_drop (List.mem_of_mem_take hy))
theorem cut_len (xs : List PyData) (lo hi : Option Int) : (cutD xs lo hi).length ≤ xs.length := by
  unfold cutD
  rw [List.length_take, List.length_drop]
  omega
/-- small things: within others, and themselves -/
def AtB (d : PyData) : Prop := Bd 2000 5 d
structure NrB (d : PyData) : Prop where
  w : WdD d
  b : Bd 60000 8 d
theorem wd_flat {d : PyData} (f : flatD d = true) : WdD d := fun ds e => by
  rcases e with rfl | rfl <;> cases f
theorem wd_tup {ds : List PyData} (l : ds.length ≤ 1000) : WdD (.tuple ds) := fun es e => by
  rcases e with e | e <;> cases e
  exact l
theorem wd_lst {ds : List PyData} (l : ds.length ≤ 1000) : WdD (.list ds) := fun es e => by
  rcases e with e | e <;> cases e
  exact l
theorem at_fl {d : PyData} (f : flatD d = true) : AtB d := (Bd.flat f).mono (by decide) (by decide)
theorem fl_bl {b : Bool} : flatD (.bool b) = true := by cases b <;> decide
theorem nb_flat {d : PyData} (f : flatD d = true) : NrB d := ⟨wd_flat f, (Bd.flat f).mono (by decide) (by decide)⟩
theorem nb_tup {ds : List PyData} (h : ∀ d ∈ ds, AtB d) (l : ds.length ≤ 25) : NrB (.tuple ds) := ⟨wd_tup (by omega), (Bd.tup (b := 2000) (n := 5) (k := 25) h l).mono (by decide) (by decide)⟩
theorem nb_lst {ds : List PyData} (h : ∀ d ∈ ds, AtB d) (l : ds.length ≤ 25) : NrB (.list ds) := ⟨wd_lst (by omega), (Bd.lst (b := 2000) (n := 5) (k := 25) h l).mono (by decide) (by decide)⟩
theorem at_tup {ds : List PyData} (h : ∀ d ∈ ds, flatD d = true) (l : ds.length ≤ 25) : AtB (.tuple ds) := (Bd.tup (b := 45) (n := 1) (k := 25) (fun d hd => Bd.flat (h d hd)) l).mono (by decide) (by decide)
theorem at_lst {ds : List PyData} (h : ∀ d ∈ ds, flatD d = true) (l : ds.length ≤ 25) : AtB (.list ds) := (Bd.lst (b := 45) (n := 1) (k := 25) (fun d hd => Bd.flat (h d hd)) l).mono (by decide) (by decide)
theorem bd_dic0 : Bd 45 1 (.dict []) := Bd.flat rfl
theorem nb_dic0 : NrB (.dict []) := ⟨fun ds e => (by rcases e with e | e <;> cases e), bd_dic0.mono (by decide) (by decide)⟩
def oddD : List PyData := [.int (-1), .int 8, .bool true, .bool false, .none, .str "1", .str "", .list [.int 1], .tuple [.int 1], .dict [], .int (10 ^ (39 : Int).toNat), .int 25, .list [.list [.int 0]]]
theorem at_nest : AtB (.list [.list [.int 0]]) := by
  have h : Bd 100 2 (.list [.int 0]) := Bd.mono (Bd.lst (b := 45) (n := 1) (k := 1) (fun d hd => by rw [List.mem_singleton.mp hd]; exact Bd.flat (by decide +kernel)) (Nat.le_refl 1)) (by decide) (by decide)
  exact Bd.mono (Bd.lst (b := 100) (n := 2) (k := 1) (fun d hd => by rw [List.mem_singleton.mp hd]; exact h) (Nat.le_refl 1)) (by decide) (by decide)
theorem odd_ok : ∀ d ∈ oddD, idxD 8 d = false ∧ AtB d := by
  unfold oddD
  repeat' first | exact al_nil (S := fun d => idxD 8 d = false ∧ AtB d) | refine al_cons (S := fun d => idxD 8 d = false ∧ AtB d) ?_ ?_
  all_goals first | exact ⟨rfl, at_fl (by decide +kernel)⟩ | exact ⟨rfl, bd_dic0.mono (by decide) (by decide)⟩ | exact ⟨rfl, at_lst (fun d hd => by rw [List.mem_singleton.mp hd]; decide +kernel) (by decide)⟩ | exact ⟨rfl, at_tup (fun d hd => by rw [List.mem_singleton.mp hd]; decide +kernel) (by decide)⟩ | exact ⟨rfl, at_nest⟩
theorem Evs.at2 {K : PySem.W.Frag} {p l : Addr} {H : Hp} {σ : L2.St} {t : TA} {ds : List PyData} {zs : List V} {Q : List V → Hp → Prop} (e : Evs K p (hd l H) σ t ds) (hl : H l = some (.lst zs)) (k : ∀ vs H', Same H H' → DxAll K (hd2 p l H') vs ds → Q vs H') : t σ H Q :=
  e.go (hid_lst hl) hd_in fun vs H1 s1 q1 => k vs H1 s1 (by rw [gh_hd2] at q1; exact q1)
theorem Evs.forL2 {K : PySem.W.Frag} {p l : Addr} {H : Hp} {σ : L2.St} {t : TA} {ds : List PyData} {zs : List V} {g : TG} {tb : TS} {D : Ends} (e : Evs K p (hd l H) σ t ds) (hl : H l = some (.lst zs)) (ln : ds.length ≤ 100000)
    (k : ∀ l2 xs H', Same H H' → H l2 = none → H' l2 = some (.lst xs) → DxAll K (hd2 p l H') xs ds → ∃ W : Nat → Nat → L2.St → Hp → Prop, (∃ m, W 0 m σ H') ∧ ∀ i m σ H, W i m σ H →
      ((Itl K l2).stop i H ∧ D.nx σ H) ∨ ((Itl K l2).go i H ∧ ∃ N : L2.St → Hp → Prop, (∀ σ' H', N σ' H' → ∃ m', m' < m ∧ W (i + 1) m' σ' H') ∧ ∀ x H', (Itl K l2).yld i H x H' → g x σ H' fun σ2 H2 => tb { D with nx := N, ct := N, bk := D.nx } σ2 H2)) :
    tFor (iList K (tLst' t)) g tb D σ H :=
  e.at2 hl fun vs H1 s1 q1 => ⟨sz (by rw [q1.len]; exact ln), fun l2 H2 n2 s2 h2 => ⟨l2, rfl, ⟨_, SqL.of h2⟩, k l2 vs H2 (s1.trans s2) (s1.free n2) h2 (DxAll.same (hd2_same s2) q1)⟩⟩
/-- no pattern for n cells -/
structure BdX (n : Nat) (d : PyData) : Prop where
  q : patB n d = false
  s : SzP d
  b : Bd 60000 8 d
theorem bx_no {n : Nat} {d : PyData} (h : NrB d) (nd : ∀ kvs, d ≠ .dict kvs) : BdX n d := ⟨by
  cases d with
  | dict kvs => exact absurd rfl (nd kvs)
  | _ => rfl, fun kvs e => absurd e (nd kvs), h.b⟩
theorem bx_dic {n : Nat} {k v : PyData} (f : flatD k = true) (h : NrB v) (hb : Bd 2500 6 v) (q : (idxD n k && letD v) = false) : BdX n (.dict [(k, v)]) := ⟨by
  show ((idxD n k && letD v) && true) = false
  rw [q]
  rfl, fun kvs e => by
    cases e
    exact ⟨(show 1 ≤ 1000 by decide), by simp, fun p hp => by rw [List.mem_singleton.mp hp]; exact h.w⟩, (Bd.dic (b := 2500) (n := 6) (k := 1) (kvs := [(k, v)]) (fun p hp => by rw [List.mem_singleton.mp hp]; exact ⟨f, hb⟩) (Nat.le_refl 1)).mono (by decide) (by decide)⟩
def t1 (ds : List PyData) : PyData := .tuple ds
def bad1 (n : Nat) : List PyData := [.none, .list [], .str "", .int 0, .bool true, .dict [(.int (n : Nat), .tuple [.int 0])], .dict [(.int (-1), .tuple [.int 0])], .dict [(.int 0, .tuple [])], .dict [(.int 0, .list [.int 0])], .dict [(.int 0, .tuple [.int 1, .int 0])], .dict [(.int 0, .tuple [.int 0, .int 0])], .dict [(.int 0, .tuple [.int 8])]]
def bad2 (ps : Ptn) : List PyData := [.dict [(.str "0", .tuple [.int 0])], .dict [(.int 0, .tuple [.bool true])], .dict [(.int 0, .int 0)], .dict [(.int 0, .none)], .tuple [patD ps], .dict [(.int 0, .tuple [.list [.int 0]])], .dict [(.int 0, .tuple [.int 0, .list [.int 1]])]]
theorem bad1_ok {n : Nat} (n24 : n ≤ 24) : ∀ d ∈ bad1 n, BdX n d := by
  have nk : flatD (.int ((n : Nat) : Int)) = true := by
    have : ∀ m : Fin 25, flatD (.int ((m.val : Nat) : Int)) = true := by decide +kernel
    exact this ⟨n, by omega⟩
  have fi : ∀ z : Int, flatD (.int z) = true → ∀ d ∈ [PyData.int z], flatD d = true := fun z h d hd => by rw [List.mem_singleton.mp hd]; exact h
  unfold bad1
  refine al_cons (bx_no (nb_flat rfl) fun _ e => by cases e) (al_cons (bx_no (nb_lst al_nil (by decide)) fun _ e => by cases e) (al_cons (bx_no (nb_flat (by decide +kernel)) fun _ e => by cases e) (al_cons (bx_no (nb_flat (by decide +kernel)) fun _ e => by cases e) (al_cons (bx_no (nb_flat rfl) fun _ e => by cases e) ?_))))
  have dic : ∀ {k : PyData} {ds : List PyData}, flatD k = true → (∀ d ∈ ds, flatD d = true) → ds.length ≤ 25 → (idxD n k && letD (.tuple ds)) = false → BdX n (.dict [(k, .tuple ds)]) := fun f h l q => bx_dic f (nb_tup (fun d hd => at_fl (h d hd)) l) ((at_tup h l).mono (by decide) (by decide)) q
  refine al_cons (dic nk (fi 0 (by decide +kernel)) (by decide) ?_) (al_cons (dic (by decide +kernel) (fi 0 (by decide +kernel)) (by decide) rfl) (al_cons (dic (by decide +kernel) al_nil (by decide) ?_) (al_cons (bx_dic (by decide +kernel) (nb_lst (fun d hd => at_fl (fi 0 (by decide +kernel) d hd)) (by decide)) ((at_lst (fi 0 (by decide +kernel)) (by decide)).mono (by decide) (by decide)) ?_) (al_cons (dic (by decide +kernel) (fun d hd => ?_) (by decide) ?_) (al_cons (dic (by decide +kernel) (fun d hd => ?_) (by decide) ?_) (al_cons (dic (by decide +kernel) (fi 8 (by decide +kernel)) (by decide) ?_) al_nil))))))
  · have : idxD (n : Int) (.int ((n : Nat) : Int)) = false := by
      show (decide ((0 : Int) ≤ (n : Int)) && decide ((n : Int) < (n : Int))) = false
      rw [decide_eq_false (show ¬ ((n : Int) < (n : Int)) by omega), Bool.and_false]
    rw [this]
    rfl
  · exact Bool.and_false _
  · exact Bool.and_false _
  · simp only [List.mem_cons, List.not_mem_nil, or_false] at hd
    rcases hd with rfl | rfl <;> decide +kernel
  · exact Bool.and_false _
  · simp only [List.mem_cons, List.not_mem_nil, or_false] at hd
    rcases hd with rfl | rfl <;> decide +kernel
  · exact Bool.and_false _
  · exact Bool.and_false _
theorem bad2_ok {n : Nat} {ps : Ptn} (o : OkPt n ps) (n24 : n ≤ 24) : ∀ d ∈ bad2 ps, BdX n d := by
  have f0 : flatD (.int 0) = true := by decide +kernel
  have g0 : ∀ d ∈ [PyData.int 0], flatD d = true := fun d hd => by rw [List.mem_singleton.mp hd]; exact f0
  have la : AtB (.list [.int 0]) := at_lst g0 (by decide)
  have g1 : ∀ d ∈ [PyData.int 1], flatD d = true := fun d hd => by rw [List.mem_singleton.mp hd]; decide +kernel
  have la1 : AtB (.list [.int 1]) := at_lst g1 (by decide)
  have lb1 : Bd 300 2 (.list [.int 1]) := (Bd.lst (b := 45) (n := 1) (k := 1) (fun d hd => Bd.flat (g1 d hd)) (Nat.le_refl 1)).mono (by decide) (by decide)
  have pl := okpt_len o
  have lb : Bd 300 2 (.list [.int 0]) := (Bd.lst (b := 45) (n := 1) (k := 1) (fun d hd => Bd.flat (g0 d hd)) (Nat.le_refl 1)).mono (by decide) (by decide)
  unfold bad2
  refine al_cons (bx_dic (by decide +kernel) (nb_tup (fun d hd => at_fl (g0 d hd)) (by decide)) ((at_tup g0 (by decide)).mono (by decide) (by decide)) rfl) (al_cons (bx_dic f0 (nb_tup (fun d hd => ?_) (by decide)) ?_ (Bool.and_false _)) (al_cons (bx_dic f0 (nb_flat f0) ((Bd.flat f0).mono (by decide) (by decide)) (Bool.and_false _)) (al_cons (bx_dic f0 (nb_flat rfl) ((Bd.flat rfl).mono (by decide) (by decide)) (Bool.and_false _)) (al_cons ⟨rfl, fun kvs e => (by cases e), (Bd.tup (b := 31000) (n := 4) (k := 1) (ds := [patD ps]) (fun d hd => by rw [List.mem_singleton.mp hd]; exact bd_pat o n24 (by omega)) (Nat.le_refl 1)).mono (by decide) (by decide)⟩ (al_cons (bx_dic f0 (nb_tup (fun d hd => by rw [List.mem_singleton.mp hd]; exact la) (by decide)) ?_ (Bool.and_false _)) (al_cons (bx_dic f0 (nb_tup (fun d hd => ?_) (by decide)) ?_ (Bool.and_false _)) al_nil))))))
  · rw [List.mem_singleton.mp hd]
    exact at_fl rfl
  · exact (at_tup (fun d hd => by rw [List.mem_singleton.mp hd]; rfl) (by decide)).mono (by decide) (by decide)
  · exact (Bd.tup (b := 300) (n := 2) (k := 1) (ds := [.list [.int 0]]) (fun d hd => by rw [List.mem_singleton.mp hd]; exact lb) (Nat.le_refl 1)).mono (by decide) (by decide)
  · simp only [List.mem_cons, List.not_mem_nil, or_false] at hd
    rcases hd with rfl | rfl
    · exact at_fl f0
    · exact la1
  · refine (Bd.tup (b := 300) (n := 2) (k := 2) (ds := [.int 0, .list [.int 1]]) (fun d hd => ?_) (Nat.le_refl 2)).mono (by decide) (by decide)
    simp only [List.mem_cons, List.not_mem_nil, or_false] at hd
    rcases hd with rfl | rfl
    · exact (Bd.flat f0).mono (by decide) (by decide)
    · exact lb1
def things (cs : List Int) : List PyData := [.none, .tuple [], .list (dvs cs), .tuple (List.replicate (25 : Int).toNat [PyData.int 0]).flatten, .str "0", .dict []]
theorem things_ok (cs : List Int) (l : cs.length ≤ 24) : ∀ d ∈ things cs, contentD d = false ∧ WdD d := by
  unfold things
  refine al_cons (S := fun d => contentD d = false ∧ WdD d) ⟨rfl, wd_flat rfl⟩ (al_cons (S := fun d => contentD d = false ∧ WdD d) ⟨rfl, wd_tup (by decide)⟩ (al_cons (S := fun d => contentD d = false ∧ WdD d) ⟨rfl, wd_lst (by unfold dvs; rw [List.length_map]; omega)⟩ (al_cons (S := fun d => contentD d = false ∧ WdD d) ⟨by decide +kernel, wd_tup (by decide)⟩ (al_cons (S := fun d => contentD d = false ∧ WdD d) ⟨rfl, wd_flat (by decide +kernel)⟩ (al_cons (S := fun d => contentD d = false ∧ WdD d) ⟨rfl, fun ds e => (by rcases e with e | e <;> cases e)⟩ al_nil)))))
theorem put_not {cs : List PyData} {dy : PyData} (h : idxD 8 dy = false) (lo hi : Option Int) : contentD (.tuple (cutD cs none lo ++ [dy] ++ cutD cs hi none)) = false := by
  unfold contentD
  have e : worthsD (.tuple (cutD cs none lo ++ [dy] ++ cutD cs hi none)) = false := by
    show (_ && (cutD cs none lo ++ [dy] ++ cutD cs hi none).all (idxD 8)) = false
    rw [List.all_append, List.all_append]
    show (_ && (_ && (idxD 8 dy && true) && _)) = false
    rw [h]
    simp
  rw [e]
  rfl
def sp_odd (K : PySem.W.Frag) : Sp := fun vs H Q _ => ∃ (p l : Addr) (zs : List V), vs = [] ∧ IsL p (hd l H) ∧ H l = some (.lst zs) ∧ ∀ l2 xs H', Same H H' → H l2 = none → H' l2 = some (.lst xs) → DxAll K (hd2 p l H') xs oddD → Q (.ref l2) H'
section
variable {P : Program} {w : World} {K : PySem.W.Frag} {mg : Str → Option Value} {base : Heap}
theorem ok_odd {f : Addr} {fd : FuncData} (F : Fun K "_law_odd" "_law_odd" s_l_odd f fd) (T : Txt mg) : FnOk P w K mg base CX0 1 f fd [] (sp_odd K) := by
  refine F.ok sc_l_odd (fun vs H Q E h => ?_) (fun cdv A outer s H vs Q E hr h => ?_)
  · obtain ⟨_, _, _, rfl, _⟩ := h
    rfl
  obtain ⟨p, l, zs, rfl, P0, hl, k⟩ := h
  refine ⟨_, (pss_one (ps_ret (pe_lst' (pa_cons (pe_un un_neg pe_int) (pa_cons pe_int (pa_cons pe_bl (pa_cons pe_bl (pa_cons pe_non (pa_cons pe_str (pa_cons pe_str (pa_cons (pe_lst' (pa_cons pe_int pa_nil)) (pa_cons (pe_tup' (pa_cons pe_int pa_nil)) (pa_cons pe_dnewK (pa_cons (pe_op op_pow pe_int pe_int) (pa_cons pe_int (pa_cons (pe_lst' (pa_cons (pe_lst' (pa_cons pe_int pa_nil)) pa_nil)) pa_nil)))))))))))))))), ?_⟩
  dsimp only [tRet, tLst']
  refine Evs.at2 (K := K) (p := p) (l := l) (ds := oddD) ?e hl fun vs H1 s1 q1 => ?_
  case e =>
    unfold oddD
    repeat' first | exact evs_nil | apply evs_cons | exact ev_int | exact ev_non | exact ev_bl | exact ev_str | apply ev_tup P0 | apply ev_lst P0 | apply ev_pow | apply ev_neg | apply ev_dnew P0
    all_goals first | exact ⟨by decide, by decide, by decide⟩ | (simp only [List.length_cons, List.length_nil]; omega)
  exact ⟨sz (by rw [q1.len]; exact (show 13 ≤ 100000 by decide)), fun l2 H2 n s2 h2 => k l2 vs H2 (s1.trans s2) (s1.free n) h2 (DxAll.same (hd2_same s2) q1)⟩
end
end Af


set_option Elab.async false
set_option linter.all false
set_option maxRecDepth 100000
set_option maxHeartbeats 16000000
namespace Af
open PySem L2
abbrev s_l_refused : Stmt := top 30
abbrev N_l_refused : List Str := ["_law_pen_here", "_law_row", "_law_pattern_here", "_law_many", "_law_bad", "_law_thing", "_law_seen", "_law_one", "_law_spot", "_law_other", "_law_things"]
theorem sc_l_refused : FnScope N_l_refused ["_law_pen_here", "_law_row", "_law_pattern_here"] (defScope s_l_refused) := ⟨rfl, rfl, rfl, by decide +kernel, rfl, by decide +kernel, by decide +kernel⟩

section
variable {K : PySem.W.Frag} {p : Addr} {H0 : Hp} {σ : L2.St}
theorem ev_dI {tk tv : TE} {z : Int} {d : PyData} (P : IsL p H0) (hk : Ev K p H0 σ tk (.int z)) (hv : Ev K p H0 σ tv d) : Ev K p H0 σ (tDisp [(tk, tv)]) (.dict [(.int z, d)]) := ev_disp1 (k0 := .inl z) P hk hv
theorem ev_dS {tk tv : TE} {z : Str} {d : PyData} (P : IsL p H0) (hk : Ev K p H0 σ tk (.str z)) (hv : Ev K p H0 σ tv d) : Ev K p H0 σ (tDisp [(tk, tv)]) (.dict [(.str z, d)]) := ev_disp1 (k0 := .inr z) P hk hv
theorem Ev.asg {te : TE} {d : PyData} {H : Hp} {g : TG} {D : Ends} (e : Ev K p H0 σ te d) (s : Same H0 H) (k : ∀ v H', Same H H' → Dx K (hd p H') v d → g v σ H' D.nx) : tAsg te g D σ H := e.run s k
theorem Ev.asgS {te : TE} {d : PyData} {H : Hp} {g : TG} {u : TS} {D : Ends} (e : Ev K p H0 σ te d) (s : Same H0 H) (k : ∀ v H', Same H H' → Dx K (hd p H') v d → g v σ H' (u D)) : tSeq (tAsg te g) u D σ H := e.run s k
theorem gName_go {i : Nat} {v : V} {H : Hp} {Q : L2.St → Hp → Prop} (h : Q (σ.set i (some v)) H) : gName i v σ H Q := h
theorem dx_lstH {H : Hp} {v : V} {ds : List PyData} (h : Dx K (hd p H) v (.list ds)) : ∃ a xs, v = .ref a ∧ H a = some (.lst xs) ∧ DxAll K (hd p H) xs ds ∧ a ≠ p := by
  cases h with
  | @lst a xs _ e t =>
    have ne : a ≠ p := fun z => by
      rw [z, show hd p H p = none from if_pos rfl] at e
      cases e
    exact ⟨a, xs, rfl, (hd_ne ne).symm.trans e, t, ne⟩
theorem DxAll.at' {H : Hp} : ∀ {xs : List V} {ds : List PyData}, DxAll K H xs ds → ∀ {i : Nat} {y : V}, xs[i]? = some y → ∃ d ∈ ds, Dx K H y d
  | _, _, .nil, i, y, h => by simp at h
  | _, _, .cons r t, 0, y, h => by cases h; exact ⟨_, List.mem_cons_self, r⟩
  | _, _, .cons r t, i + 1, y, h => by
    obtain ⟨d, m, q⟩ := t.at' (i := i) h
    exact ⟨d, List.mem_cons_of_mem _ m, q⟩
end
theorem PatV.hide {q : Pn} {m : Nat} {H : Hp} {a : Addr} {ps : Ptn} (h : PatV H a ps) (pn : Pen q m H) : PatV (hd q.p H) a ps := by
  obtain ⟨l, hl⟩ := pn.lst
  exact h.kp (kp_hd hl)
theorem CoV.hide {q : Pn} {m : Nat} {H : Hp} {a : Addr} {cs : List Int} (h : CoV H a cs) (pn : Pen q m H) : CoV (hd q.p H) a cs := by
  obtain ⟨l, hl⟩ := pn.lst
  exact ⟨(kp_hd hl).tup h.h, h.l1, h.l24, h.b⟩
theorem CoV.kp {p a : Addr} {H H' : Hp} {cs : List Int} (h : CoV H a cs) (k : Kp p H H') : CoV H' a cs := ⟨k.tup h.h, h.l1, h.l24, h.b⟩
theorem bd_co {H : Hp} {a : Addr} {cs : List Int} (c : CoV H a cs) : Bd 2000 3 (.tuple (dvs cs)) := (Bd.tup (b := 45) (n := 1) (k := 24) (fun d hd => by
  obtain ⟨z, hz, rfl⟩ := dvs_mem hd
  exact Bd.flat (flat_small (c.b z hz))) (by unfold dvs; rw [List.length_map]; exact c.l24)).mono (by decide) (by decide)
theorem hd_go {p : Addr} {H G : Hp} (k : Kp p H G) : Same (hd p H) G := fun a o e => by
  have ne : a ≠ p := fun z => by
    rw [z, show hd p H p = none from if_pos rfl] at e
    cases e
  exact k a o (.inl ne) (hd_in a o e)
theorem hd2_hd {p l : Addr} {H : Hp} : Same (hd2 p l H) (hd p H) := by
  rw [← gh_hd2]
  exact gh_hd
def sp_refused : Sp := fun vs H Q _ => ∃ (q : Pn) (m : Nat) (ca a : Addr) (cs : List Int) (ps : Ptn), vs = [.ref q.p, .ref ca, .ref a] ∧ Pen q m H ∧ m + 2000 < 1000000000000 ∧ CoV H ca cs ∧ PatV H a ps ∧ OkPt cs.length ps ∧ ∀ H', Go q (m + 1400) H H' → Q (.bl true) H'
section
variable {P : Program} {w : World} {K : PySem.W.Frag} {mg : Str → Option Value} {base : Heap}
theorem ok_refused {f : Addr} {fd : FuncData} (F : Fun K "_law_refused" "_law_refused" s_l_refused f fd) (T : Txt mg) (t_repr : mg "repr" = none) (c_l_draw : Cal P w K mg base 2 "_law_draw" ["_law_pen_here", "_law_under"] sp_draw)
    (c_l_some : Cal P w K mg base 3 "_law_some" ["_law_pen_here", "_law_pool", "_law_most"] sp_someV) (c_l_odd : Cal P w K mg base 1 "_law_odd" [] (sp_odd K)) (c_l_error : Cal P w K mg base 7 "_law_error" ["_law_some_here", "_law_road"] (sp_error K)) :
    FnG P w K mg base 8 f fd ["_law_pen_here", "_law_row", "_law_pattern_here"] sp_refused := by
  refine okG F sc_l_refused (fun vs H Q E h => ?_) (fun cdv A outer s H vs Q E hr hg h => ?_)
  · obtain ⟨_, _, _, _, _, _, rfl, _⟩ := h
    rfl
  obtain ⟨q, m, ca, a, cs, ps, rfl, pn, hm, co, pP, op, k⟩ := h
  refine ⟨_, (pss_cons (ps_set (i := 3) sc_l_refused.nd rfl (Or.inl rfl) (pe_callB call_len' (by rfl) T.len (by decide +kernel) (pa_cons (pv 1) pa_nil)))
    (pss_cons (ps_set (i := 4) sc_l_refused.nd rfl (Or.inl rfl) (pe_lst' (pa_cons pe_non (pa_cons (pe_lst' pa_nil) (pa_cons pe_str (pa_cons pe_int (pa_cons pe_bl (pa_cons (pe_disp (pps_cons (pv 3) (pe_tup' (pa_cons pe_int pa_nil)) pps_nil) rfl rfl (by simp) (by decide)) (pa_cons (pe_disp (pps_cons (pe_un un_neg pe_int) (pe_tup' (pa_cons pe_int pa_nil)) pps_nil) rfl rfl (by simp) (by decide)) (pa_cons (pe_disp (pps_cons pe_int (pe_tup' pa_nil) pps_nil) rfl rfl (by simp) (by decide)) (pa_cons (pe_disp (pps_cons pe_int (pe_lst' (pa_cons pe_int pa_nil)) pps_nil) rfl rfl (by simp) (by decide)) (pa_cons (pe_disp (pps_cons pe_int (pe_tup' (pa_cons pe_int (pa_cons pe_int pa_nil))) pps_nil) rfl rfl (by simp) (by decide)) (pa_cons (pe_disp (pps_cons pe_int (pe_tup' (pa_cons pe_int (pa_cons pe_int pa_nil))) pps_nil) rfl rfl (by simp) (by decide)) (pa_cons (pe_disp (pps_cons pe_int (pe_tup' (pa_cons pe_int pa_nil)) pps_nil) rfl rfl (by simp) (by decide)) pa_nil))))))))))))))
    (pss_cons (ps_set (i := 4) sc_l_refused.nd rfl (Or.inl rfl) (pe_op op_cat' (pv 4) (pe_lst' (pa_cons (pe_disp (pps_cons pe_str (pe_tup' (pa_cons pe_int pa_nil)) pps_nil) rfl rfl (by simp) (by decide)) (pa_cons (pe_disp (pps_cons pe_int (pe_tup' (pa_cons pe_bl pa_nil)) pps_nil) rfl rfl (by simp) (by decide)) (pa_cons (pe_disp (pps_cons pe_int pe_int pps_nil) rfl rfl (by simp) (by decide)) (pa_cons (pe_disp (pps_cons pe_int pe_non pps_nil) rfl rfl (by simp) (by decide)) (pa_cons (pe_tup' (pa_cons (pv 2) pa_nil)) (pa_cons (pe_disp (pps_cons pe_int (pe_tup' (pa_cons (pe_lst' (pa_cons pe_int pa_nil)) pa_nil)) pps_nil) rfl rfl (by simp) (by decide)) (pa_cons (pe_disp (pps_cons pe_int (pe_tup' (pa_cons pe_int (pa_cons (pe_lst' (pa_cons pe_int pa_nil)) pa_nil))) pps_nil) rfl rfl (by simp) (by decide)) pa_nil))))))))))
    (pss_cons (ps_for PassesOwn.never rfl (pi_list (pv 4)) (pg_name (i := 5) sc_l_refused.nd rfl (Or.inl rfl))
      (pss_cons (ps_set (i := 6) sc_l_refused.nd rfl (Or.inl rfl) (pe_callB (call_reprX hg hr.units) (by rfl) t_repr (by decide +kernel) (pa_cons (pe_lst' (pa_cons (pv 5) (pa_cons (pv 1) (pa_cons (pv 2) pa_nil)))) pa_nil)))
    (pss_cons (ps_cut (ps_if (PW.pt (pw_or (pt_cmpR op_ne (pe_cal c_l_error hr (pa_cons (pe_lst' (pa_cons (pv 5) (pa_cons (pv 1) pa_nil))) (pa_cons pe_int pa_nil))) pe_str (nomark _)) (pw_or1 (pt_cmpR op_ne (pe_cal c_l_error hr (pa_cons (pe_lst' (pa_cons (pv 3) (pa_cons (pv 5) (pa_cons (pv 2) pa_nil)))) (pa_cons pe_int pa_nil))) pe_str (nomark _)))))
      (pss_one (ps_ret pe_bl))
      pss_nil))
    (pss_cons (ps_if (pt_cmpR op_ne (pe_cal c_l_error hr (pa_cons (pe_lst' (pa_cons (pv 3) (pa_cons (pv 2) (pa_cons (pv 5) pa_nil)))) (pa_cons pe_int pa_nil))) pe_str (nomark _))
      (pss_one (ps_ret pe_bl))
      pss_nil)
    (pss_one (ps_if (pt_cmpR op_ne (pe_callB (call_reprX hg hr.units) (by rfl) t_repr (by decide +kernel) (pa_cons (pe_lst' (pa_cons (pv 5) (pa_cons (pv 1) (pa_cons (pv 2) pa_nil)))) pa_nil)) (pv 6) (nomark _))
      (pss_one (ps_ret pe_bl))
      pss_nil))))))
    (pss_cons (ps_for PassesOwn.never rfl (pi_list (pe_cal0 c_l_odd hr)) (pg_name (i := 7) sc_l_refused.nd rfl (Or.inl rfl))
      (pss_cons (ps_set (i := 8) sc_l_refused.nd rfl (Or.inl rfl) (pe_cal c_l_draw hr (pa_cons (pv 0) (pa_cons (pv 3) pa_nil))))
    (pss_cons (ps_set (i := 5) sc_l_refused.nd rfl (Or.inl rfl) (pe_op op_catT' (pe_op op_catT' (pe_slice sl_tup' (pv 1) po_none (po_some (pv 8))) (pe_tup' (pa_cons (pv 7) pa_nil))) (pe_slice sl_tup' (pv 1) (po_some (pe_op op_add (pv 8) pe_int)) po_none)))
    (pss_one (ps_for PassesOwn.never rfl (pi_list (pe_op op_cat' (pe_lst' (pa_cons (pv 2) pa_nil)) (pe_cal c_l_some hr (pa_cons (pv 0) (pa_cons (pv 4) (pa_cons pe_int pa_nil)))))) (pg_name (i := 9) sc_l_refused.nd rfl (Or.inl rfl))
      (pss_one (ps_if (pt_cmpR op_ne (pe_cal c_l_error hr (pa_cons (pe_lst' (pa_cons (pv 9) (pa_cons (pv 5) pa_nil))) (pa_cons pe_int pa_nil))) pe_str (nomark _))
      (pss_one (ps_ret pe_bl))
      pss_nil)))))))
    (pss_cons (ps_set (i := 10) sc_l_refused.nd rfl (Or.inl rfl) (pe_lst' (pa_cons pe_non (pa_cons (pe_tup' pa_nil) (pa_cons (pe_callTy call_list' (by rfl) T.list (by decide +kernel) (pa_cons (pv 1) pa_nil)) (pa_cons (pe_op op_repT' (pe_tup' (pa_cons pe_int pa_nil)) pe_int) (pa_cons pe_str (pa_cons pe_dnewK pa_nil))))))))
    (pss_one (ps_ret (pe_cmpR (op_eqFl hr.units) (pe_lc (own := [("_law_thing", 5)]) (g := (gName 5)) (tt := tYes) rfl sc_l_refused.nd (pi_list (pv 10)) (blkOk_by (own := [("_law_thing", 5)]) (N := N_l_refused) (sc := defScope s_l_refused) (by decide +kernel)) (fun _ _ _ _ _ => pg_name (i := 5) sc_l_refused.nd rfl (Or.inl rfl)) (fun _ _ _ _ _ => pts_nil) (fun _ _ _ _ _ => (pe_cal c_l_error hr (pa_cons (pe_lst' (pa_cons (pv 2) (pa_cons (pv 5) pa_nil))) (pa_cons pe_int pa_nil))))) (pe_op op_rep' (pe_lst' (pa_cons pe_str pa_nil)) pe_int) (nomark _)))))))))), ?_⟩
  have l24 := co.l24
  have P0 : IsL q.p H := pn.lst
  refine ⟨_, rfl, ca, _, rfl, .inr co.h, ?_⟩
  rw [ivs_len]
  dsimp only
  show tAsg (tLst' _) (gName 4) _ _ _
  refine Ev.asg (K := K) (p := q.p) (H0 := H) (d := .list (bad1 cs.length)) ?e1 (Same.refl _) fun v1 J1 u1 x1 => ?_
  case e1 =>
    refine ev_lst P0 ?_ (show 12 ≤ 100000 by decide)
    unfold bad1
    repeat' first | exact evs_nil | apply evs_cons | exact ev_int | exact ev_non | exact ev_bl | exact ev_str | exact ev_var rfl (.int _) | apply ev_dI P0 | apply ev_dS P0 | apply ev_tup P0 | apply ev_lst P0 | apply ev_neg
    all_goals first | (show _ ≤ _; decide) | (simp only [List.length_cons, List.length_nil]; omega) | omega | trace_state
  have pn1 := pn.same u1
  have P1 : IsL q.p J1 := pn1.lst
  have pP1 := pP.same u1
  refine gName_go ?_
  dsimp only
  refine Ev.asgS (K := K) (p := q.p) (H0 := J1) (d := .list (bad1 cs.length ++ bad2 ps)) ?e2 (Same.refl _) fun v2 J2 u2 x2 => ?_
  case e2 =>
    refine ev_cat P1 (ev_var rfl x1) (ev_lst P1 ?_ (show 7 ≤ 100000 by decide)) (show 12 + 7 ≤ 100000 by decide)
    unfold bad2
    repeat' first | exact evs_nil | apply evs_cons | exact ev_int | exact ev_non | exact ev_bl | exact ev_str | exact ev_var rfl (dx_pat (pP1.hide pn1)) | apply ev_dI P1 | apply ev_dS P1 | apply ev_tup P1 | apply ev_lst P1 | apply ev_neg
    all_goals first | (show _ ≤ _; decide) | (simp only [List.length_cons, List.length_nil]; omega) | omega | trace_state
  obtain ⟨l, xs, rfl, hl, dxs, lp⟩ := dx_lstH x2
  have bad : ∀ d ∈ bad1 cs.length ++ bad2 ps, BdX cs.length d := fun d hd => by
    rcases List.mem_append.mp hd with hd | hd
    · exact bad1_ok l24 d hd
    · exact bad2_ok op l24 d hd
  have xlen : xs.length = 19 := dxs.len
  have U2 := u1.trans u2
  have pn2 := pn.same U2
  have co2 := co.same U2
  have pP2 := pP.same U2
  clear x1 x2 pP1 P1 pn1 P0
  refine ⟨_, rfl, l, rfl, ⟨_, SqL.of hl⟩, ?_⟩
  refine for_list (K := K) (a := l) (xs := xs) (fun i σ' H' => ∃ v5 v6, σ' = [some (.ref q.p), some (.ref ca), some (.ref a), some (.int (cs.length : Nat)), some (.ref l), v5, v6, none, none, none, none] ∧ Same J2 H') ?_ ?_ ?_ ?_
  · exact ⟨_, _, rfl, Same.refl _⟩
  · rintro i σ' H' _ ⟨_, _, _, s3⟩
    exact SqL.of (s3 _ _ hl)
  · rintro i y σ' H3 hy ⟨v5, v6, rfl, s3⟩
    obtain ⟨d, hd, hq⟩ := dxs.at' hy
    have bd := bad d hd
    have dx : ∀ {G : Hp}, Same J2 G → Dx K G y d := fun s => Dx.same (fun a o e => s _ _ (hd_in a o e)) hq
    have rp : ∀ {G : Hp} {tl : Addr}, Same J2 G → G tl = some (.lst [y, .ref ca, .ref a]) → ∃ D : PyData, D = .list [d, .tuple (dvs cs), patD ps] ∧ Dx K G (.ref tl) D ∧ Bd 400000 10 D := fun s h => by
      refine ⟨_, rfl, .lst h (.cons (dx s) (.cons (co2.same s).dx (.cons (dx_pat (pP2.same s)) .nil))), ?_⟩
      refine (Bd.lst (b := 60000) (n := 8) (k := 3) (ds := [d, .tuple (dvs cs), patD ps]) (fun e he => ?_) (Nat.le_refl 3)).mono (by decide) (by decide)
      simp only [List.mem_cons, List.not_mem_nil, or_false] at he
      rcases he with rfl | rfl | rfl
      · exact bd.b
      · exact (bd_co co2).mono (by decide) (by decide)
      · exact (bd_pat op l24 (by have := okpt_len op; omega)).mono (by decide) (by decide)
    refine ⟨_, rfl, _, rfl, _, rfl, szr, fun tl H4 n4 s4 h4 => ?_⟩
    have S4 := s3.trans s4
    obtain ⟨DD, eD, xD, bD⟩ := rp S4 h4
    refine ⟨_, DD, rfl, xD, bD.sh, Nat.le_trans bD.dp (by decide), Nat.le_trans bD.tx (by decide), ?_⟩
    have wz : patB cs.length d = false := bd.q
    refine ⟨fun σ' H' => σ' = [some (.ref q.p), some (.ref ca), some (.ref a), some (.int (cs.length : Nat)), some (.ref l), some y, some (.str DD.shown), none, none, none, none] ∧ Same J2 H', ?_, ?_⟩
    · refine ⟨_, rfl, _, rfl, szr, fun l5 H5 n5 s5 h5 => ?_⟩
      have S5 := S4.trans s5
      refine ⟨l5, 0, rfl, .inl ⟨rfl, y, .ref ca, d, .tuple (dvs cs), h5, dx S5, (co2.same S5).dx, bd.s, co2.wd, .inr ⟨ca, cs, rfl, co2.same S5, rfl, wz, fun H6 s6 => ?_⟩⟩⟩
      have S6 := S5.trans s6
      refine ⟨rfl, _, rfl, iteF ⟨_, rfl, _, rfl, _, rfl, szr, fun l7 H7 n7 s7 h7 => ?_⟩⟩
      have S7 := S6.trans s7
      refine ⟨l7, 1, rfl, .inr ⟨rfl, cs.length, y, .ref a, d, patD ps, h7, dx S7, dx_pat (pP2.same S7), bd.s, pat_sz op (by have := okpt_len op; omega), by rw [wz]; rfl, fun H8 s8 => ?_⟩⟩
      exact ⟨rfl, _, rfl, iteF ⟨rfl, S7.trans s8⟩⟩
    · rintro σ' H8 ⟨rfl, S8⟩
      refine ⟨_, rfl, _, rfl, _, rfl, szr, fun l9 H9 n9 s9 h9 => ?_⟩
      have S9 := S8.trans s9
      refine ⟨l9, 1, rfl, .inr ⟨rfl, cs.length, .ref a, y, patD ps, d, h9, dx_pat (pP2.same S9), dx S9, pat_sz op (by have := okpt_len op; omega), bd.s, by rw [wz, Bool.and_false], fun H10 s10 => ?_⟩⟩
      have S10 := S9.trans s10
      refine ⟨rfl, _, rfl, iteF ⟨_, rfl, _, rfl, _, rfl, szr, fun l11 H11 n11 s11 h11 => ?_⟩⟩
      have S11 := S10.trans s11
      obtain ⟨DD', eD', xD', bD'⟩ := rp S11 h11
      refine ⟨_, DD', rfl, xD', bD'.sh, Nat.le_trans bD'.dp (by decide), Nat.le_trans bD'.tx (by decide), _, rfl, rfl, _, rfl, ?_⟩
      rw [eD', eD]
      exact iteF' (by simp) ⟨_, _, rfl, S11⟩
  rintro σ' H3 ⟨v5, v6, rfl, s3⟩
  have pn3 := pn2.same s3
  have co3 := co2.same s3
  have pP3 := pP2.same s3
  have hl3 := s3 _ _ hl
  have dx3 : DxAll K (hd q.p H3) xs (bad1 cs.length ++ bad2 ps) := DxAll.same (hd_same s3) dxs
  have g3 : Go q (m + 0) H H3 := (Go.of pn (U2.trans s3)).mono (by omega)
  clear dxs hl pP2 co2 pn2
  refine ⟨q.p, l, _, rfl, ?_, hl3, fun l4 ys H4 s4 n4 h4 t4 => ⟨l4, rfl, ⟨_, SqL.of h4⟩, ?_⟩⟩
  · obtain ⟨z, hz⟩ := pn3.lst
    exact ⟨z, by rw [hd_ne lp.symm]; exact hz⟩
  have t4' : DxAll K (hd q.p H4) ys oddD := DxAll.same hd2_hd t4
  have l4p : l4 ≠ q.p := (show IsL q.p H3 from pn3.lst).ne n4
  have oddl : ys.length = 13 := t4.len
  refine for_list (K := K) (a := l4) (xs := ys) (fun i σ' H' => ∃ v5 v6 v7 v8 v9, σ' = [some (.ref q.p), some (.ref ca), some (.ref a), some (.int (cs.length : Nat)), some (.ref l), v5, v6, v7, v8, v9, none] ∧ Go q (m + 102 * i) H4 H') ?_ ?_ ?_ ?_
  · exact ⟨_, _, _, _, _, rfl, Go.of ((pn3.same s4).mono (by omega)) (Same.refl _)⟩
  · rintro i σ' H' _ ⟨_, _, _, _, _, _, g⟩
    exact SqL.of (g.kp.lst l4p h4)
  · rintro i y σ' H5 hy ⟨v5, v6, v7, v8, v9, rfl, g5⟩
    obtain ⟨dy, hdy, hox⟩ := t4'.at' hy
    obtain ⟨iy, -⟩ := odd_ok dy hdy
    have i13 : i < 13 := by rw [← oddl]; exact (List.getElem?_eq_some_iff.mp hy).1
    have c1 := co.l1
    refine ⟨_, rfl, _, rfl, q, _, _, rfl, by omega, by omega, g5.pen, by omega, fun d H6 d0 d1 g6 => ?_⟩
    have g46 := g5.trans g6
    have P6 : IsL q.p H6 := g46.pen.lst
    have k36 : Kp q.p H3 H6 := (Kp.same s4).trans g46.kp
    have co6 := co3.kp k36
    have pP6 := pP3.kp k36
    have hl6 := k36.lst lp hl3
    have y6 : Dx K (hd q.p H6) y dy := Dx.same (fun a o e => by
      have ne : a ≠ q.p := fun z => by
        rw [z, show hd q.p H4 q.p = none from if_pos rfl] at e
        cases e
      exact (hd_ne ne).trans (g46.kp a o (.inl ne) (hd_in a o e))) hox
    have lc : (dvs cs).length = cs.length := by unfold dvs; rw [List.length_map]
    have len1 := cut_len (dvs cs) none (some d)
    have len2 := cut_len (dvs cs) (some (d + 1)) none
    refine gName_go ?_
    dsimp only
    refine Ev.asgS (K := K) (p := q.p) (H0 := H6) (d := .tuple (cutD (dvs cs) none (some d) ++ [dy] ++ cutD (dvs cs) (some (d + 1)) none)) ?e3 (Same.refl _) fun vT H7 s7 xT => ?_
    case e3 =>
      refine ev_catT P6 (ev_catT P6 (ev_slT P6 (ev_var rfl (co6.hide g46.pen).dx) evo_none (evo_some (K := K) (p := q.p) (ev_var rfl (.int _)))) (ev_tup P6 (evs_cons (ev_var rfl y6) evs_nil) (show 1 ≤ 100000 by decide)) ?_) (ev_slT P6 (ev_var rfl (co6.hide g46.pen).dx) (evo_some (K := K) (p := q.p) (ev_add (ev_var rfl (.int _)) ev_int)) evo_none) ?_
      · simp only [List.length_cons, List.length_nil]; omega
      · simp only [List.length_append, List.length_cons, List.length_nil]; omega
    have cT := put_not (cs := dvs cs) iy (some d) (some (d + 1))
    have wT : WdD (.tuple (cutD (dvs cs) none (some d) ++ [dy] ++ cutD (dvs cs) (some (d + 1)) none)) := wd_tup (by simp only [List.length_append, List.length_cons, List.length_nil]; omega)
    generalize PyData.tuple (cutD (dvs cs) none (some d) ++ [dy] ++ cutD (dvs cs) (some (d + 1)) none) = dT at xT cT wT
    have pn7 := g46.pen.same s7
    refine ⟨_, rfl, szr, fun l8 H8 n8 s8 h8 => ?_⟩
    have pn8 := pn7.same s8
    have S8 := s7.trans s8
    have l8p : l8 ≠ q.p := (show IsL q.p H7 from pn7.lst).ne n8
    refine ⟨_, rfl, _, rfl, q, _, l, xs, 2, rfl, pn8, by omega, S8 _ _ hl6, by omega, by decide, by decide, fun l9 H9 zs rest g9 n9 h9 pe9 zl => ?_⟩
    have zl2 : zs.length ≤ 2 := by omega
    refine ⟨l8, l9, _, _, rfl, rfl, g9.kp.lst l8p h8, h9, sz (by simp only [List.length_cons, List.length_nil]; omega), fun l10 H10 n10 s10 h10 => ⟨l10, rfl, ⟨_, SqL.of h10⟩, ?_⟩⟩
    have k710 : Kp q.p H7 H10 := (Kp.same s8).trans (g9.kp.trans (Kp.same s10))
    have k310 : Kp q.p H3 H10 := k36.trans ((Kp.same s7).trans k710)
    have xT10 : Dx K H10 vT dT := Dx.same (hd_go k710) xT
    have others : ∀ z ∈ [V.ref a] ++ zs, ∃ dz, Dx K H10 z dz ∧ SzP dz := fun z hz => by
      rcases List.mem_append.mp hz with hz | hz
      · rw [List.mem_singleton.mp hz]
        exact ⟨patD ps, dx_pat (pP3.kp k310), pat_sz op (by have := okpt_len op; omega)⟩
      · have mz : z ∈ xs := pe9.mem_iff.mp (List.mem_append.mpr (.inl hz))
        obtain ⟨dz, hdz, qz⟩ := dx3.mem mz
        exact ⟨dz, Dx.same (hd_go k310) qz, (bad dz hdz).s⟩
    have pn10 : Pen q (m + 102 * (i + 1)) H10 := (g9.pen.same s10).mono (by omega)
    have k410 : Kp q.p H4 H10 := g46.kp.trans ((Kp.same s7).trans k710)
    refine for_list (K := K) (a := l10) (xs := [V.ref a] ++ zs) (fun j σ' H' => ∃ v9, σ' = [some (.ref q.p), some (.ref ca), some (.ref a), some (.int (cs.length : Nat)), some (.ref l), some vT, v6, some y, some (.int d), v9, none] ∧ Same H10 H') ?_ ?_ ?_ ?_
    · exact ⟨_, rfl, Same.refl _⟩
    · rintro j σ' H' _ ⟨_, _, s⟩
      exact SqL.of (s _ _ h10)
    · rintro j z σ' H11 hz ⟨w9, rfl, s11⟩
      obtain ⟨dz, qz, sz'⟩ := others z (List.mem_of_getElem? hz)
      refine ⟨_, rfl, _, rfl, szr, fun l12 H12 n12 s12 h12 => ?_⟩
      have S12 := s11.trans s12
      refine ⟨l12, 0, rfl, .inl ⟨rfl, z, vT, dz, dT, h12, Dx.same S12 qz, Dx.same S12 xT10, sz', wT, .inl ⟨cT, fun H13 s13 => ?_⟩⟩⟩
      exact ⟨rfl, _, rfl, iteF ⟨_, rfl, S12.trans s13⟩⟩
    · rintro σ' H11 ⟨w9, rfl, s11⟩
      exact ⟨_, _, _, _, _, rfl, k410.trans (Kp.same s11), pn10.same s11⟩
  · rintro σ' H5 ⟨v5', v6', v7', v8', v9', rfl, g5⟩
    rw [oddl] at g5
    have P5 : IsL q.p H5 := g5.pen.lst
    have k35 : Kp q.p H3 H5 := (Kp.same s4).trans g5.kp
    have co5 := co3.kp k35
    have pP5 := pP3.kp k35
    dsimp only
    refine Ev.asgS (K := K) (p := q.p) (H0 := H5) (d := .list (things cs)) ?e4 (Same.refl _) fun vt J u xt => ?_
    case e4 =>
      unfold things
      exact ev_lst P5 (evs_cons ev_non (evs_cons (ev_tup P5 evs_nil (show 0 ≤ 100000 by decide)) (evs_cons (ev_lstT P5 (ev_var rfl (co5.hide g5.pen).dx)) (evs_cons (ev_repT P5 (ev_tup P5 (evs_cons ev_int evs_nil) (show 1 ≤ 100000 by decide)) ev_int (by simp) (by decide) (by decide) (show 1 ≤ 1000 by decide)) (evs_cons ev_str (evs_cons (ev_dnew P5) evs_nil)))))) (show 6 ≤ 100000 by decide)
    obtain ⟨lt, ts, rfl, hlt, dt, ltp⟩ := dx_lstH xt
    have tl : ts.length = 6 := dt.len
    refine ⟨_, rfl, lt, rfl, ⟨_, SqL.of hlt⟩, fun D hD => lc_list (K := K) (a := lt) (xs := ts) (fun j H' => Same J H' ∧ H' D = some (.lst (List.replicate j (.str "content")))) ?_ ?_ ?_ ?_⟩
    · exact ⟨same_new hD, upd_same⟩
    · rintro j H' _ ⟨s, _⟩
      exact SqL.of (s _ _ hlt)
    · rintro j x H6 hx ⟨s6, h6⟩
      obtain ⟨d, hd, qd⟩ := dt.at' hx
      obtain ⟨cd, wd⟩ := things_ok cs co.l24 d hd
      have j6 : j < 6 := by rw [← tl]; exact (List.getElem?_eq_some_iff.mp hx).1
      refine ⟨rfl, _, rfl, _, rfl, szr, fun l12 H12 n12 s12 h12 => ?_⟩
      have S12 : Same J H12 := s6.trans s12
      refine ⟨l12, 0, rfl, .inl ⟨rfl, .ref a, x, patD ps, d, h12, dx_pat (pP5.same (u.trans S12)), Dx.same (fun a o e => S12 _ _ (hd_in a o e)) qd, pat_sz op (by have := okpt_len op; omega), wd, .inl ⟨cd, fun H13 s13 => ?_⟩⟩⟩
      have S13 := S12.trans s13
      refine ⟨_, s13 _ _ (s12 _ _ h6), szl (by rw [List.length_replicate]; omega), same_mut S13 hD, ?_⟩
      rw [upd_same, List.replicate_succ']
    · rintro H6 ⟨s6, h6⟩
      rw [tl] at h6
      refine ⟨szr, fun c1 H7 n7 s7 h7 => ⟨c1, 6, _, rfl, rfl, h7, by decide, by decide, sz (by decide), fun c2 H8 n8 s8 h8 => ?_⟩⟩
      have g8 : Go q (m + 1400) H H8 := (((g3.trans ((Go.of pn3 s4).trans g5)).same (u.trans (s6.trans (s7.trans s8))))).mono (by omega)
      exact ⟨D, c2, _, rfl, rfl, s8 _ _ (s7 _ _ h6), h8, fun v hv => by rw [(List.mem_replicate.mp hv).2]; rfl, k H8 g8⟩
end
end Af

set_option Elab.async false
set_option linter.all false
set_option maxRecDepth 100000
set_option maxHeartbeats 16000000
namespace Af
open PySem L2
abbrev s_l_changed_right : Stmt := top 31
abbrev N_l_changed_right : List Str := ["_law_pen_here", "_law_row", "_law_one", "_law_two", "_law_spot"]
theorem sc_l_changed_right : FnScope N_l_changed_right ["_law_pen_here", "_law_row", "_law_one", "_law_two"] (defScope s_l_changed_right) := ⟨rfl, rfl, rfl, by decide +kernel, rfl, by decide +kernel, by decide +kernel⟩

theorem passN {P : Program} {w : World} {X : Cx} (hp : X.prog = P) (hw : X.w = w) (σ : L2.St) : PassesAt (L2.CX P w) X σ E0 := by
  subst hp hw
  intro pins H s e s' I c
  obtain ⟨_, _, _, _, _, _, _, _, _, _, _, _, q⟩ := c
  exact q.elim
/-! what both let, compared -/
def rNeMet : R2 := fun x y H Q => ∃ rs, (rs.map (·.1)).Nodup ∧ MetV H x rs ∧ MetV H y rs ∧ Q (.bl false) H
section
variable {X : Cx}
theorem hits_pat {pins : List (Addr × Obj)} {σ : L2.St} {H : Hp} {s : Shared} {A : Around} (I : Inv X pins σ H s) (hu : A.units + 64 < cLine) {ls : List (L2.Key × V)} {vb : List (L2.Key × Value)} (rb : KV ls vb) :
    ∀ {ks : List (L2.Key × V)} {va : List (L2.Key × Value)}, KV ks va → (∀ p ∈ ks, ∃ t t' ws, p.2 = .ref t ∧ valV ls p.1 = some (.ref t') ∧ H t = some (.tup (ivs ws)) ∧ H t' = some (.tup (ivs ws))) → PySem.W.KeqHits A s vb va true := by
  intro ks va ra
  unfold KV at ra
  induction ra with
  | nil => intro _; exact .nil
  | @cons p q ps qs h t ih =>
    intro hp
    obtain ⟨h1, h2⟩ := h
    obtain ⟨t0, t1, ws, e0, e1, w0, w1⟩ := hp p List.mem_cons_self
    have rr : RelO (some (.ref t1)) (valueAt vb p.1) := by rw [← e1]; exact rb.val p.1
    obtain ⟨y, hy, ry⟩ := rr.some_of
    obtain ⟨k, v⟩ := q
    have h1' : p.1 = k := h1
    rw [h1'] at hy
    rw [e0] at h2
    obtain ⟨as, r1⟩ := Dp.reads I (.tuple (dvs ws)) (.ref t0) v (.tup (SqT.of w0) (dp_ints ws)) h2
    obtain ⟨bs, r2⟩ := Dp.reads I (.tuple (dvs ws)) (.ref t1) y (.tup (SqT.of w1) (dp_ints ws)) ry
    have lay : PyData.canLay0 (.tuple (dvs ws)) = true := lay_ints ws
    have dp : PyData.depth (.tuple (dvs ws)) ≤ 64 := by
      have : PyData.depthAll (dvs ws) = 0 := deep_ints ws
      rw [dp_t]
      omega
    have eq := SeqAt.eqAt_reads (.tuple (dvs ws)) (.tuple (dvs ws)) A s v y as bs r1 r2 lay lay (by omega)
    rw [SeqAt.eqv_refl _ lay] at eq
    show PySem.W.KeqHits A s vb ((k, v) :: qs) (true && true)
    exact .hit hy eq (ih fun p' hm => hp p' (List.mem_cons_of_mem _ hm))
theorem op_neMet (hu : X.A.units + 65 < cLine) : OpR X (compareOp .NotEq) rNeMet := by
  intro pins s σ H x y v u Q I rx ry h
  obtain ⟨rs, nd, h1, h2, q⟩ := h
  unfold MetV at h1 h2
  by_cases c : noneP rs = true
  · rw [if_pos c] at h1 h2
    subst h1 h2
    cases (show v = Value.none from rx)
    cases (show u = Value.none from ry)
    exact SeqAt.RcNeAt.none_none _ _ _ _ ⟨.bl false, H, I, rfl, q⟩
  · rw [if_neg c] at h1 h2
    obtain ⟨a, rfl, pa⟩ := h1
    obtain ⟨b, rfl, pb⟩ := h2
    obtain ⟨ra, ha, pra⟩ := pa.ex
    obtain ⟨rb, hb, prb⟩ := pb.ex
    obtain rfl : v = Value.ref a := rx
    obtain rfl : u = Value.ref b := ry
    obtain ⟨_, ya, va, rva, da⟩ := (show ObjOk X.prog X.w H s.heap a (.dK ra) from I.hok a _ ha)
    obtain ⟨_, yb, vb, rvb, db⟩ := (show ObjOk X.prog X.w H s.heap b (.dK rb) from I.hok b _ hb)
    have hl : va.length = vb.length := by rw [← rva.length, ← rvb.length, paired_len pra, paired_len prb]
    have ndb : (rb.map (·.1)).Nodup := by
      rw [rows_keys prb]
      exact List.pairwise_map.mpr ((List.pairwise_map.mp nd).imp fun {a b} z e => z (by injection e; omega))
    have hp : ∀ p ∈ ra, ∃ t t' ws, p.2 = .ref t ∧ valV rb p.1 = some (.ref t') ∧ H t = some (.tup (ivs ws)) ∧ H t' = some (.tup (ivs ws)) := fun p hp => by
      obtain ⟨i, hi⟩ := List.mem_iff_getElem?.mp hp
      obtain ⟨r, hr, e1, t, e2, ht⟩ := Af.paired_get pra hi
      have il : i < rb.length := by
        rw [paired_len prb]
        exact (List.getElem?_eq_some_iff.mp hr).1
      obtain ⟨r', hr', e1', t', e2', ht'⟩ := Af.paired_get prb (List.getElem?_eq_getElem il)
      rw [hr] at hr'
      cases hr'
      refine ⟨t, t', r.2, e2, ?_, ht, ht'⟩
      rw [e1, ← e1', ← e2']
      exact valV_at ndb (List.getElem?_eq_getElem il)
    exact PySem.W.keq_ne (knd := mixKind X.prog X.w) (r := true) ya yb da db (by omega) (fun _ => hits_pat I (A := X.A.in1) (by show X.A.units + 1 + 64 < cLine; omega) rvb rva hp) (fin_bl I q (by simp [hl]))
end
def putP (ps : Ptn) (k : Nat) (ws : List Int) : Ptn := if (ps.any fun p => decide (p.1 = k)) = true then ps.map (fun p => if p.1 = k then (p.1, ws) else p) else ps ++ [(k, ws)]
theorem put_any {H : Hp} {rows : List (L2.Key × V)} {ps : Ptn} (k : Nat) (h : Paired (RowV H) rows ps) : (rows.any fun kv => decide (kv.1 = (Sum.inl ((k : Nat) : Int) : L2.Key))) = ps.any fun p => decide (p.1 = k) := by
  induction h with
  | nil => rfl
  | @cons r p rs ps hr t ih =>
    rw [List.any_cons, List.any_cons, ih]
    congr 1
    rw [hr.1, decide_eq_decide]
    exact ⟨fun e => by injection e; omega, fun e => by rw [e]⟩
theorem put_rows {H : Hp} {rows : List (L2.Key × V)} {ps : Ptn} {k : Nat} {t : Addr} {ws : List Int} (h : Paired (RowV H) rows ps) (ht : H t = some (.tup (ivs ws))) : Paired (RowV H) (putK rows (.inl ((k : Nat) : Int)) (.ref t)) (putP ps k ws) := by
  unfold putK putP
  rw [put_any k h]
  by_cases c : (ps.any fun p => decide (p.1 = k)) = true
  · rw [if_pos c, if_pos c]
    clear c
    induction h with
    | nil => exact .nil
    | @cons r p rs ps hr _ ih =>
      refine .cons ?_ ih
      obtain ⟨e1, t0, e2, h0⟩ := hr
      dsimp only
      by_cases c : p.1 = k
      · rw [if_pos (by rw [e1, c]), if_pos c]
        exact ⟨e1, t, rfl, ht⟩
      · rw [if_neg (fun z => c (by rw [e1] at z; injection z; omega)), if_neg c]
        exact ⟨e1, t0, e2, h0⟩
  · rw [if_neg c, if_neg c]
    exact paired_app h (.cons ⟨rfl, t, rfl, ht⟩ .nil)
theorem put_keys (ps : Ptn) (k : Nat) (ws : List Int) : (putP ps k ws).map (·.1) = if (ps.any fun p => decide (p.1 = k)) = true then ps.map (·.1) else ps.map (·.1) ++ [k] := by
  unfold putP
  by_cases c : (ps.any fun p => decide (p.1 = k)) = true
  · rw [if_pos c, if_pos c, List.map_map]
    refine List.map_congr_left fun p _ => ?_
    show (if p.1 = k then (p.1, ws) else p).1 = p.1
    split <;> rfl
  · rw [if_neg c, if_neg c, List.map_append]
    rfl
theorem put_mem {ps : Ptn} {k : Nat} {ws : List Int} {p : Nat × List Int} (h : p ∈ putP ps k ws) : p ∈ ps ∨ p = (k, ws) := by
  unfold putP at h
  by_cases c : (ps.any fun p => decide (p.1 = k)) = true
  · rw [if_pos c] at h
    obtain ⟨q, hq, e⟩ := List.mem_map.mp h
    by_cases d : q.1 = k
    · rw [if_pos d] at e
      exact .inr (by rw [← e, d])
    · rw [if_neg d] at e
      exact .inl (by rw [← e]; exact hq)
  · rw [if_neg c] at h
    rcases List.mem_append.mp h with h | h
    · exact .inl h
    · exact .inr (List.mem_singleton.mp h)
theorem put_has (ps : Ptn) (k : Nat) (ws : List Int) : (k, ws) ∈ putP ps k ws := by
  unfold putP
  by_cases c : (ps.any fun p => decide (p.1 = k)) = true
  · rw [if_pos c]
    obtain ⟨p, hp, e⟩ := List.any_eq_true.mp c
    have e : p.1 = k := of_decide_eq_true e
    exact List.mem_map.mpr ⟨p, hp, by rw [if_pos e, e]⟩
  · rw [if_neg c]
    exact List.mem_append.mpr (.inr (List.mem_singleton.mpr rfl))
theorem put_put (ps : Ptn) (k : Nat) (w1 w2 : List Int) : putP (putP ps k w1) k w2 = putP ps k w2 := by
  unfold putP
  by_cases c : (ps.any fun p => decide (p.1 = k)) = true
  · rw [if_pos c, if_pos c]
    have e : ((ps.map fun p => if p.1 = k then (p.1, w1) else p).any fun p => decide (p.1 = k)) = true := by
      obtain ⟨p, hp, e⟩ := List.any_eq_true.mp c
      have e' : p.1 = k := of_decide_eq_true e
      exact List.any_eq_true.mpr ⟨_, List.mem_map.mpr ⟨p, hp, rfl⟩, by rw [if_pos e']; exact e⟩
    rw [if_pos e, List.map_map]
    refine List.map_congr_left fun p _ => ?_
    show (if (if p.1 = k then (p.1, w1) else p).1 = k then ((if p.1 = k then (p.1, w1) else p).1, w2) else (if p.1 = k then (p.1, w1) else p)) = _
    by_cases d : p.1 = k
    · rw [if_pos d, if_pos d]
      simp only [d, if_true]
    · rw [if_neg d, if_neg d]
  · rw [if_neg c, if_neg c]
    have e : ((ps ++ [(k, w1)]).any fun p => decide (p.1 = k)) = true := List.any_eq_true.mpr ⟨(k, w1), List.mem_append.mpr (.inr (List.mem_singleton.mpr rfl)), by simp⟩
    rw [if_pos e, List.map_append]
    congr 1
    · refine (List.map_congr_left fun p hp => ?_).trans (List.map_id _)
      have : p.1 ≠ k := fun z => c (List.any_eq_true.mpr ⟨p, hp, decide_eq_true z⟩)
      rw [if_neg this]
      rfl
    · simp
theorem put_nd {ps : Ptn} {k : Nat} {ws : List Int} (n : (ps.map (·.1)).Nodup) : ((putP ps k ws).map (·.1)).Nodup := by
  rw [put_keys]
  by_cases c : (ps.any fun p => decide (p.1 = k)) = true
  · rw [if_pos c]
    exact n
  · rw [if_neg c]
    refine List.nodup_append.mpr ⟨n, List.pairwise_singleton _ _, fun a ha b hb e => ?_⟩
    subst e
    rw [List.mem_singleton.mp hb] at ha
    obtain ⟨p, hp, e⟩ := List.mem_map.mp ha
    exact c (List.any_eq_true.mpr ⟨p, hp, decide_eq_true e⟩)
theorem OkPt.put {n : Nat} {ps : Ptn} (o : OkPt n ps) {k : Nat} {z : Int} (hk : k < n) (hz : 0 ≤ z ∧ z < 8) : OkPt n (putP ps k [z]) := by
  refine ⟨put_nd o.nd, fun p hp => ?_, fun p hp => ?_, fun p hp => ?_, fun p hp => ?_⟩ <;> rcases put_mem hp with h | rfl
  · exact o.kb p h
  · exact hk
  · exact o.ne p h
  · simp
  · exact o.asc p h
  · exact List.pairwise_singleton _ _
  · exact o.rg p h
  · exact fun y hy => by rw [List.mem_singleton.mp hy]; exact hz
/-- all stands but the pen and the dict at a -/
def Kpa (p a : Addr) (H H' : Hp) : Prop := ∀ c o, c ≠ a → (c ≠ p ∨ ∀ l, o ≠ HO.lst l) → H c = some o → H' c = some o
theorem Kpa.of {p a : Addr} {H H' : Hp} (k : Kp p H H') : Kpa p a H H' := fun c o _ h e => k c o h e
theorem Kpa.trans {p a : Addr} {H H1 H2 : Hp} (x : Kpa p a H H1) (y : Kpa p a H1 H2) : Kpa p a H H2 := fun c o n h e => y c o n h (x c o n h e)
theorem Kpa.upd {p a : Addr} {H : Hp} {o : HO} : Kpa p a H (upd H a o) := fun c u n _ e => by rw [upd_ne n]; exact e
structure StC (q : Pn) (m : Nat) (ca a b : Addr) (cs : List Int) (ps qs : Ptn) (H0 H' : Hp) : Prop where
  kp : Kpa q.p a H0 H'
  pen : Pen q m H'
  co : CoV H' ca cs
  pa : PatV H' a ps
  pb : PatV H' b qs
theorem StC.same {q : Pn} {m : Nat} {ca a b : Addr} {cs : List Int} {ps qs : Ptn} {H0 H1 H2 : Hp} (x : StC q m ca a b cs ps qs H0 H1) (s : Same H1 H2) : StC q m ca a b cs ps qs H0 H2 := ⟨x.kp.trans (Kpa.of (Kp.same s)), x.pen.same s, x.co.same s, x.pa.same s, x.pb.same s⟩
theorem StC.put {q : Pn} {m : Nat} {ca a b : Addr} {cs : List Int} {ps qs : Ptn} {H0 H1 : Hp} {rows : List (L2.Key × V)} {k : Nat} {t : Addr} {ws : List Int} (x : StC q m ca a b cs ps qs H0 H1) (ne : a ≠ b) (ha : H1 a = some (.dK rows)) (pr : Paired (RowV H1) rows ps) (ht : H1 t = some (.tup (ivs ws))) :
    StC q m ca a b cs (putP ps k ws) qs H0 (upd H1 a (.dK (putK rows (.inl ((k : Nat) : Int)) (.ref t)))) := by
  have off : ∀ {c : Addr} {o : HO}, H1 c = some o → (∀ r, o ≠ .dK r) → c ≠ a := fun e n z => by
    rw [z, ha] at e
    exact n _ (Option.some.inj e).symm
  refine ⟨x.kp.trans Kpa.upd, ?_, ⟨by rw [upd_ne (off x.co.h (fun r z => by cases z))]; exact x.co.h, x.co.l1, x.co.l24, x.co.b⟩, ⟨_, upd_same, rows_upd ha (fun l z => by cases z) (put_rows pr ht)⟩, ?_⟩
  · obtain ⟨i, n, h1, h2, h3⟩ := x.pen.ex
    exact ⟨i, n, by rw [upd_ne (off h1 (fun r z => by cases z))]; exact h1, by rw [upd_ne (off h2 (fun r z => by cases z))]; exact h2, h3⟩
  · obtain ⟨rb, hb, pb⟩ := x.pb.ex
    exact ⟨rb, by rw [upd_ne ne.symm]; exact hb, rows_upd ha (fun l z => by cases z) pb⟩
theorem MetV.same {H H' : Hp} {v : V} {rs : Ptn} (h : MetV H v rs) (s : Same H H') : MetV H' v rs := by
  unfold MetV at h ⊢
  by_cases c : noneP rs = true
  · rw [if_pos c] at h ⊢
    exact h
  · rw [if_neg c] at h ⊢
    obtain ⟨a, e, p⟩ := h
    exact ⟨a, e, p.same s⟩
theorem both_nd (ps qs : Ptn) (n : Nat) : ((bothP ps qs (List.range n)).map (·.1)).Nodup := by
  unfold bothP
  rw [List.map_map]
  refine List.pairwise_map.mpr ?_
  exact (List.nodup_range.filter _).imp fun {a b} h => h
theorem agB_no {ps : Ptn} {cs : List Int} {k : Nat} {z : Int} (h : cs.getD k 0 ≠ z) : agB (putP ps k [z]) cs = false := by
  unfold agB
  rw [List.all_eq_false]
  exact ⟨_, put_has ps k [z], by simpa using h⟩
def sp_changed : Sp := fun vs H Q _ => ∃ (q : Pn) (m : Nat) (ca a b : Addr) (cs : List Int) (ps qs : Ptn), vs = [.ref q.p, .ref ca, .ref a, .ref b] ∧ Pen q m H ∧ m + 2000 < 1000000000000 ∧ CoV H ca cs ∧ PatV H a ps ∧ PatV H b qs ∧ OkPt cs.length ps ∧ OkPt cs.length qs ∧ a ≠ b ∧
  ∀ H' ps', StC q (m + 1) ca a b cs ps' qs H H' → OkPt cs.length ps' → Q (.bl true) H'
section
variable {P : Program} {w : World} {K : PySem.W.Frag} {mg : Str → Option Value} {base : Heap}
theorem ok_changed {f IC IP : Addr} {fd : FuncData} (F : Fun K "_law_changed_right" "_law_changed_right" s_l_changed_right f fd) (T : Txt mg) (c_l_draw : Cal P w K mg base 2 "_law_draw" ["_law_pen_here", "_law_under"] sp_draw) (c_matches : CalX P w K mg base 6 "matches" ["pattern", "content"] (sp_matches K IC IP)) (c_both : CalX P w K mg base 6 "both" ["cells", "pattern", "other"] (sp_both K IP))
    (c_l_is_met : Cal P w K mg base 1 "_law_is_met" ["_law_pattern_here", "_law_content_here"] sp_agrees) (c_l_both : Cal P w K mg base 1 "_law_both" ["_law_one", "_law_other"] sp_lboth) (c_l_error : Cal P w K mg base 7 "_law_error" ["_law_some_here", "_law_road"] (sp_error K)) :
    FnOk P w K mg base CX0 8 f fd ["_law_pen_here", "_law_row", "_law_one", "_law_two"] sp_changed := by
  refine F.ok sc_l_changed_right (fun vs H Q E h => ?_) (fun cdv A outer s H vs Q E hr h => ?_)
  · obtain ⟨_, _, _, _, _, _, _, _, rfl, _⟩ := h
    rfl
  obtain ⟨q, m, ca, a, b, cs, ps, qs, rfl, pn, hm, co, pa, pb, oa, ob, ne, k⟩ := h
  refine ⟨_, (pss_cons (ps_set (i := 4) sc_l_changed_right.nd rfl (Or.inl rfl) (pe_cal c_l_draw hr (pa_cons (pv 0) (pa_cons (pe_callB call_len' (by rfl) T.len (by decide +kernel) (pa_cons (pv 1) pa_nil)) pa_nil))))
    (pss_cons (ps_asg (pe_tup' (pa_cons (pe_ix ix_seq' (pv 1) (pv 4) (fun _ _ => rfl)) pa_nil)) (pg_sub (pv 2) (pv 4) (set_dict hr.u1)))
    (pss_cons (ps_cut (ps_if (PW.pt (pw_or (pt_cmpR op_ne (pe_calX (E := fun _ => E0) c_matches hr (passN rfl rfl) (pa_cons (pv 2) (pa_cons (pv 1) pa_nil))) (pe_cal c_l_is_met hr (pa_cons (pv 2) (pa_cons (pv 1) pa_nil))) (nomark _)) (pw_or1 (pt_cmpR (op_neMet hr.un65) (pe_calX (E := fun _ => E0) c_both hr (passN rfl rfl) (pa_cons (pe_callB call_len' (by rfl) T.len (by decide +kernel) (pa_cons (pv 1) pa_nil)) (pa_cons (pv 2) (pa_cons (pv 3) pa_nil)))) (pe_cal c_l_both hr (pa_cons (pv 2) (pa_cons (pv 3) pa_nil))) (nomark _)))))
      (pss_one (ps_ret pe_bl))
      pss_nil))
    (pss_cons (ps_asg (pe_tup' (pa_cons (pe_op op_mod (pe_callTy call_int1 (by rfl) T.int (by decide +kernel) (pa_cons (pe_op op_add (pe_ix ix_seq' (pv 1) (pv 4) (fun _ _ => rfl)) pe_int) pa_nil)) pe_int) pa_nil)) (pg_sub (pv 2) (pv 4) (set_dict hr.u1)))
    (pss_cons (ps_cut (ps_if (PW.pt (pw_or (pt_val (pe_calX (E := fun _ => E0) c_matches hr (passN rfl rfl) (pa_cons (pv 2) (pa_cons (pv 1) pa_nil)))) (pw_or1 (pt_cmpR (op_neMet hr.un65) (pe_calX (E := fun _ => E0) c_both hr (passN rfl rfl) (pa_cons (pe_callB call_len' (by rfl) T.len (by decide +kernel) (pa_cons (pv 1) pa_nil)) (pa_cons (pv 3) (pa_cons (pv 2) pa_nil)))) (pe_cal c_l_both hr (pa_cons (pv 3) (pa_cons (pv 2) pa_nil))) (nomark _)))))
      (pss_one (ps_ret pe_bl))
      pss_nil))
    (pss_cons (ps_asg (pe_tup' pa_nil) (pg_sub (pv 2) (pv 4) (set_dict hr.u1)))
    (pss_cons (ps_cut (ps_if (PW.pt (pw_or (pt_cmpR op_ne (pe_cal c_l_error hr (pa_cons (pe_lst' (pa_cons (pv 2) (pa_cons (pv 1) pa_nil))) (pa_cons pe_int pa_nil))) pe_str (nomark _)) (pw_or1 (pt_cmpR op_ne (pe_cal c_l_error hr (pa_cons (pe_lst' (pa_cons (pe_callB call_len' (by rfl) T.len (by decide +kernel) (pa_cons (pv 1) pa_nil)) (pa_cons (pv 3) (pa_cons (pv 2) pa_nil)))) (pa_cons pe_int pa_nil))) pe_str (nomark _)))))
      (pss_one (ps_ret pe_bl))
      pss_nil))
    (pss_cons (ps_asg (pe_tup' (pa_cons (pe_ix ix_seq' (pv 1) (pv 4) (fun _ _ => rfl)) pa_nil)) (pg_sub (pv 2) (pv 4) (set_dict hr.u1)))
    (pss_cons (ps_cut (ps_if (PW.pt (pw_or (pt_cmpR op_ne (pe_calX (E := fun _ => E0) c_matches hr (passN rfl rfl) (pa_cons (pv 2) (pa_cons (pv 1) pa_nil))) (pe_cal c_l_is_met hr (pa_cons (pv 2) (pa_cons (pv 1) pa_nil))) (nomark _)) (pw_or1 (pt_cmpR (op_neMet hr.un65) (pe_calX (E := fun _ => E0) c_both hr (passN rfl rfl) (pa_cons (pe_callB call_len' (by rfl) T.len (by decide +kernel) (pa_cons (pv 1) pa_nil)) (pa_cons (pv 2) (pa_cons (pv 2) pa_nil)))) (pe_cal c_l_both hr (pa_cons (pv 2) (pa_cons (pv 2) pa_nil))) (nomark _)))))
      (pss_one (ps_ret pe_bl))
      pss_nil))
    (pss_one (ps_ret pe_bl))))))))))), ?_⟩
  have l24 := co.l24
  have l1 := co.l1
  refine ⟨_, rfl, _, rfl, ca, _, rfl, .inr co.h, ?_⟩
  rw [ivs_len]
  refine ⟨q, m, _, rfl, by omega, by omega, pn, by omega, fun d H1 d0 d1 g1 => ?_⟩
  obtain ⟨kk, rfl⟩ := Int.eq_ofNat_of_zero_le d0
  have kl : kk < cs.length := by omega
  have z0 : StC q (m + 1) ca a b cs ps qs H H1 := ⟨Kpa.of g1.kp, g1.pen, co.kp g1.kp, pa.kp g1.kp, pb.kp g1.kp⟩
  obtain ⟨z, ez⟩ : ∃ z, z = cs.getD kk 0 := ⟨_, rfl⟩
  have hz : (ivs cs)[kk]? = some (.int z) := by rw [ez]; exact ivs_at kl
  have bz : 0 ≤ z ∧ z < 8 := by
    refine co.b z ?_
    rw [ez, List.getD_eq_getElem?_getD, List.getElem?_eq_getElem kl]
    exact List.getElem_mem kl
  refine ⟨_, rfl, _, rfl, ca, _, _, _, rfl, rfl, .inr z0.co.h, atI_nat hz, szr, fun t2 H2 n2 s2 h2 => ?_⟩
  have z2 := z0.same s2
  obtain ⟨r2, ha2, pr2⟩ := z2.pa.ex
  have lr2 : r2.length ≤ 24 := by rw [paired_len pr2]; have := okpt_len oa; omega
  refine ⟨_, rfl, _, rfl, a, _, rfl, DPut.k (k := .inl ((kk : Nat) : Int)) ha2 (szl (by omega)), ?_⟩
  have o3 := oa.put kl bz
  have z3 := z2.put (k := kk) (ws := [z]) ne ha2 pr2 h2
  generalize upd H2 a (.dK (putK r2 (.inl ((kk : Nat) : Int)) (.ref t2))) = H3 at z3 ⊢
  generalize putP ps kk [z] = p3 at o3 z3
  refine ⟨fun σ' H' => σ' = [some (.ref q.p), some (.ref ca), some (.ref a), some (.ref b), some (.int ((kk : Nat) : Int))] ∧ StC q (m + 1) ca a b cs p3 qs H H', ?_, ?_⟩
  · refine ⟨_, rfl, _, rfl, .ref a, .ref ca, patD p3, .tuple (dvs cs), rfl, dx_pat z3.pa, z3.co.dx, pat_sz o3 (by have := okpt_len o3; omega), z3.co.wd, .inr ⟨ca, cs, rfl, z3.co, rfl, .inr ⟨a, p3, rfl, z3.pa, o3, fun H4 s4 => ?_⟩⟩⟩
    have z4 := z3.same s4
    refine ⟨_, rfl, _, rfl, a, ca, cs.length, p3, cs, rfl, z4.pa, o3, by have := okpt_len o3; omega, z4.co.h, Nat.le_refl _, fun H5 s5 => ?_⟩
    have z5 := z4.same s5
    refine ⟨rfl, _, rfl, iteF' (by simp) ?_⟩
    refine ⟨_, rfl, ca, _, rfl, .inr z5.co.h, _, rfl, _, rfl, .ref a, .ref b, cs.length, patD p3, patD qs, by rw [ivs_len], dx_pat z5.pa, dx_pat z5.pb, pat_sz o3 (by have := okpt_len o3; omega), pat_sz ob (by have := okpt_len ob; omega), .inr ⟨a, b, p3, qs, rfl, rfl, z5.pa, z5.pb, o3, ob, l24, fun va Ja sa ma _ => ?_⟩⟩
    have z5a := z5.same sa
    refine ⟨_, rfl, _, rfl, a, b, cs.length, p3, qs, rfl, z5a.pa, z5a.pb, o3, ob, l24, fun vb Jb sb mb => ?_⟩
    refine ⟨_, both_nd _ _ _, ma.same sb, mb, _, rfl, iteF ⟨rfl, z5a.same sb⟩⟩
  rintro _ H5 ⟨rfl, z5⟩
  have bz6 : 0 ≤ (z + 1) % 8 ∧ (z + 1) % 8 < 8 := ⟨Int.emod_nonneg _ (by decide), Int.emod_lt_of_pos _ (by decide)⟩
  refine ⟨_, rfl, _, rfl, ca, _, _, _, rfl, rfl, .inr z5.co.h, atI_nat hz, _, _, rfl, rfl, .inl ⟨_, rfl, _, _, rfl, rfl, (show (0 : Int) < 8 by decide), szr, fun t6 H6 n6 s6 h6 => ?_⟩⟩
  have z6 := z5.same s6
  obtain ⟨r6, ha6, pr6⟩ := z6.pa.ex
  have lr6 : r6.length ≤ 24 := by rw [paired_len pr6]; have := okpt_len o3; omega
  refine ⟨_, rfl, _, rfl, a, _, rfl, DPut.k (k := .inl ((kk : Nat) : Int)) ha6 (szl (by omega)), ?_⟩
  have o7 := o3.put kl bz6
  have no7 : agB (putP p3 kk [(z + 1) % 8]) cs = false := agB_no (by rw [← ez]; omega)
  have z7 := z6.put (k := kk) (ws := [(z + 1) % 8]) ne ha6 pr6 h6
  generalize upd H6 a (.dK (putK r6 (.inl ((kk : Nat) : Int)) (.ref t6))) = H7 at z7 ⊢
  generalize putP p3 kk [(z + 1) % 8] = p7 at o7 z7 no7
  refine ⟨fun σ' H' => σ' = [some (.ref q.p), some (.ref ca), some (.ref a), some (.ref b), some (.int ((kk : Nat) : Int))] ∧ StC q (m + 1) ca a b cs p7 qs H H', ?_, ?_⟩
  · refine ⟨_, rfl, _, rfl, .ref a, .ref ca, patD p7, .tuple (dvs cs), rfl, dx_pat z7.pa, z7.co.dx, pat_sz o7 (by have := okpt_len o7; omega), z7.co.wd, .inr ⟨ca, cs, rfl, z7.co, rfl, .inr ⟨a, p7, rfl, z7.pa, o7, fun H8 s8 => ?_⟩⟩⟩
    have z8 := z7.same s8
    rw [no7]
    refine ⟨_, rfl, iteF ?_⟩
    refine ⟨_, rfl, ca, _, rfl, .inr z8.co.h, _, rfl, _, rfl, .ref b, .ref a, cs.length, patD qs, patD p7, by rw [ivs_len], dx_pat z8.pb, dx_pat z8.pa, pat_sz ob (by have := okpt_len ob; omega), pat_sz o7 (by have := okpt_len o7; omega), .inr ⟨b, a, qs, p7, rfl, rfl, z8.pb, z8.pa, ob, o7, l24, fun va Ja sa ma _ => ?_⟩⟩
    have z8a := z8.same sa
    refine ⟨_, rfl, _, rfl, b, a, cs.length, qs, p7, rfl, z8a.pb, z8a.pa, ob, o7, l24, fun vb Jb sb mb => ?_⟩
    refine ⟨_, both_nd _ _ _, ma.same sb, mb, _, rfl, iteF ⟨rfl, z8a.same sb⟩⟩
  rintro _ H8 ⟨rfl, z8⟩
  refine ⟨szr, fun t9 H9 n9 s9 h9 => ?_⟩
  have z9 := z8.same s9
  obtain ⟨r9, ha9, pr9⟩ := z9.pa.ex
  have lr9 : r9.length ≤ 24 := by rw [paired_len pr9]; have := okpt_len o7; omega
  refine ⟨_, rfl, _, rfl, a, _, rfl, DPut.k (k := .inl ((kk : Nat) : Int)) ha9 (szl (by omega)), ?_⟩
  obtain ⟨p10, e10⟩ : ∃ p10, p10 = putP p7 kk [] := ⟨_, rfl⟩
  have z10 := z9.put (k := kk) (ws := []) ne ha9 pr9 h9
  have bad : patB cs.length (patD p10) = false := by
    show (p10.map fun p => (PyData.int ((p.1 : Nat) : Int), PyData.tuple (dvs p.2))).all _ = false
    rw [List.all_map, List.all_eq_false]
    refine ⟨(kk, []), by rw [e10]; exact put_has p7 kk [], ?_⟩
    show ¬ ((idxD (cs.length : Int) (.int ((kk : Nat) : Int)) && letD (.tuple [])) = true)
    rw [show letD (.tuple []) = false from rfl, Bool.and_false]
    decide
  have sz10 : SzP (patD p10) := fun kvs e => by
    cases e
    have nd := put_nd (k := kk) (ws := []) o7.nd
    rw [← e10] at nd
    refine ⟨?_, ?_, fun p hp => ?_⟩
    · rw [List.length_map]
      have h := nd_lenN (p10.map (·.1)) cs.length nd fun x hx => by
        obtain ⟨p, hp, rfl⟩ := List.mem_map.mp hx
        rw [e10] at hp
        rcases put_mem hp with h | rfl
        · exact o7.kb p h
        · exact kl
      rw [List.length_map] at h
      omega
    · rw [List.map_map]
      exact List.pairwise_map.mpr ((List.pairwise_map.mp nd).imp fun {a b} z e => z (by injection e; omega))
    · obtain ⟨r, hr, rfl⟩ := List.mem_map.mp hp
      refine wd_tup ?_
      unfold dvs
      rw [List.length_map]
      rw [e10] at hr
      rcases put_mem hr with h | rfl
      · have := asc_len (o7.asc r h) (o7.rg r h)
        omega
      · exact Nat.zero_le _
  rw [← e10] at z10
  generalize upd H9 a (.dK (putK r9 (.inl ((kk : Nat) : Int)) (.ref t9))) = H10 at z10 ⊢
  refine ⟨fun σ' H' => σ' = [some (.ref q.p), some (.ref ca), some (.ref a), some (.ref b), some (.int ((kk : Nat) : Int))] ∧ StC q (m + 1) ca a b cs p10 qs H H', ?_, ?_⟩
  · refine ⟨_, rfl, _, rfl, szr, fun l11 H11 n11 s11 h11 => ?_⟩
    have z11 := z10.same s11
    refine ⟨l11, 0, rfl, .inl ⟨rfl, .ref a, .ref ca, patD p10, .tuple (dvs cs), h11, dx_pat z11.pa, z11.co.dx, sz10, z11.co.wd, .inr ⟨ca, cs, rfl, z11.co, rfl, bad, fun H12 s12 => ?_⟩⟩⟩
    have z12 := z11.same s12
    refine ⟨rfl, _, rfl, iteF ⟨_, rfl, ca, _, rfl, .inr z12.co.h, _, rfl, _, rfl, szr, fun l13 H13 n13 s13 h13 => ?_⟩⟩
    rw [ivs_len] at h13
    have z13 := z12.same s13
    refine ⟨l13, 1, rfl, .inr ⟨rfl, cs.length, .ref b, .ref a, patD qs, patD p10, h13, dx_pat z13.pb, dx_pat z13.pa, pat_sz ob (by have := okpt_len ob; omega), sz10, by rw [bad, Bool.and_false], fun H14 s14 => ?_⟩⟩
    exact ⟨rfl, _, rfl, iteF ⟨rfl, z13.same s14⟩⟩
  rintro _ H14 ⟨rfl, z14⟩
  refine ⟨_, rfl, _, rfl, ca, _, _, _, rfl, rfl, .inr z14.co.h, atI_nat hz, szr, fun t15 H15 n15 s15 h15 => ?_⟩
  have z15 := z14.same s15
  obtain ⟨r15, ha15, pr15⟩ := z15.pa.ex
  have lr15 : r15.length ≤ 1000 := by
    rw [paired_len pr15]
    have := (sz10 _ rfl).1
    rw [List.length_map] at this
    exact this
  refine ⟨_, rfl, _, rfl, a, _, rfl, DPut.k (k := .inl ((kk : Nat) : Int)) ha15 (szl (by omega)), ?_⟩
  have e16 : putP p10 kk [z] = putP p7 kk [z] := by
    rw [e10]
    exact put_put p7 kk [] [z]
  have z16 := z15.put (k := kk) (ws := [z]) ne ha15 pr15 h15
  rw [e16] at z16
  have o16 := o7.put kl bz
  generalize upd H15 a (.dK (putK r15 (.inl ((kk : Nat) : Int)) (.ref t15))) = H16 at z16 ⊢
  generalize putP p7 kk [z] = p16 at o16 z16
  refine ⟨fun σ' H' => σ' = [some (.ref q.p), some (.ref ca), some (.ref a), some (.ref b), some (.int ((kk : Nat) : Int))] ∧ StC q (m + 1) ca a b cs p16 qs H H', ?_, ?_⟩
  · refine ⟨_, rfl, _, rfl, .ref a, .ref ca, patD p16, .tuple (dvs cs), rfl, dx_pat z16.pa, z16.co.dx, pat_sz o16 (by have := okpt_len o16; omega), z16.co.wd, .inr ⟨ca, cs, rfl, z16.co, rfl, .inr ⟨a, p16, rfl, z16.pa, o16, fun H17 s17 => ?_⟩⟩⟩
    have z17 := z16.same s17
    refine ⟨_, rfl, _, rfl, a, ca, cs.length, p16, cs, rfl, z17.pa, o16, by have := okpt_len o16; omega, z17.co.h, Nat.le_refl _, fun H18 s18 => ?_⟩
    have z18 := z17.same s18
    refine ⟨rfl, _, rfl, iteF' (by simp) ?_⟩
    refine ⟨_, rfl, ca, _, rfl, .inr z18.co.h, _, rfl, _, rfl, .ref a, .ref a, cs.length, patD p16, patD p16, by rw [ivs_len], dx_pat z18.pa, dx_pat z18.pa, pat_sz o16 (by have := okpt_len o16; omega), pat_sz o16 (by have := okpt_len o16; omega), .inr ⟨a, a, p16, p16, rfl, rfl, z18.pa, z18.pa, o16, o16, l24, fun va Ja sa ma _ => ?_⟩⟩
    have z18a := z18.same sa
    refine ⟨_, rfl, _, rfl, a, a, cs.length, p16, p16, rfl, z18a.pa, z18a.pa, o16, o16, l24, fun vb Jb sb mb => ?_⟩
    refine ⟨_, both_nd _ _ _, ma.same sb, mb, _, rfl, iteF ⟨rfl, z18a.same sb⟩⟩
  rintro _ H19 ⟨rfl, z19⟩
  exact k H19 p16 z19 o16
end
end Af

set_option Elab.async false
set_option linter.all false
set_option maxRecDepth 100000
namespace Af
open PySem PySem.Spec PyProof.Rows L2
/-! len(set(xs)) of numbers, also where some are equal -/
theorem range_get (ns : List Int) : ∀ i, i ≤ ns.length → (List.range i).map (fun i => ns.getD i 0) = ns.take i
  | 0, _ => rfl
  | i + 1, h => by
    have hlt : i < ns.length := h
    rw [List.range_succ, List.map_append, range_get ns i (Nat.le_of_lt hlt), List.take_add_one, List.getElem?_eq_getElem hlt]
    show ns.take i ++ [ns.getD i 0] = ns.take i ++ [ns[i]]
    rw [List.getD_eq_getElem?_getD, List.getElem?_eq_getElem hlt]
    rfl
theorem nodup_snoc {l : List Int} {z : Int} : (l ++ [z]).Nodup ↔ l.Nodup ∧ z ∉ l := by
  unfold List.Nodup
  rw [List.pairwise_append]
  constructor
  · rintro ⟨h1, _, h3⟩
    exact ⟨h1, fun m => h3 z m z (List.mem_singleton.mpr rfl) rfl⟩
  · rintro ⟨h1, h2⟩
    exact ⟨h1, List.pairwise_singleton _ _, fun a ha b hb e => h2 (by rw [← List.mem_singleton.mp hb, ← e]; exact ha)⟩
theorem fm_len (ns : List Int) : ∀ i, i ≤ ns.length → (firstMet (fun i => ns.getD i 0) i).length ≤ i ∧ ((firstMet (fun i => ns.getD i 0) i).length = i ↔ (ns.take i).Nodup)
  | 0, _ => ⟨Nat.le_refl _, by simp [firstMet_zero]⟩
  | i + 1, h => by
    have hlt : i < ns.length := h
    obtain ⟨h1, h2⟩ := fm_len ns i (Nat.le_of_lt hlt)
    have e1 : ns.getD i 0 = ns[i] := by
      rw [List.getD_eq_getElem?_getD, List.getElem?_eq_getElem hlt]
      rfl
    have e2 : ns.take (i + 1) = ns.take i ++ [ns[i]] := by
      rw [List.take_add_one, List.getElem?_eq_getElem hlt]
      rfl
    have ea : (firstMet (fun i => ns.getD i 0) i).any (· == ns.getD i 0) = (ns.take i).any (· == ns[i]) := by
      rw [firstMet_any, range_get ns i (Nat.le_of_lt hlt), e1]
    rw [firstMet_succ, step_length, ea, e2, nodup_snoc]
    cases c : (ns.take i).any (· == ns[i]) with
    | true =>
      rw [if_pos rfl]
      obtain ⟨y, hy, ey⟩ := List.any_eq_true.mp c
      have ey2 : y = ns[i] := eq_of_beq ey
      exact ⟨by omega, ⟨fun z => by omega, fun z => absurd (ey2 ▸ hy) z.2⟩⟩
    | false =>
      rw [if_neg (by simp)]
      have no : ns[i] ∉ ns.take i := fun m => by
        have w : (ns.take i).any (· == ns[i]) = true := List.any_eq_true.mpr ⟨_, m, beq_self_eq_true ns[i]⟩
        rw [c] at w
        cases w
      exact ⟨by omega, ⟨fun z => ⟨h2.mp (by omega), no⟩, fun z => by rw [h2.mpr z.1]⟩⟩
def tLenSetA (K : PySem.W.Frag) (ta : TE) : TE := fun σ H Q => ta σ H fun x H1 => ∃ (l : Addr) (ns : List Int), x = .ref l ∧ H1 l = some (.lst (ivs ns)) ∧ ns.length ≤ 4000 ∧ ∀ c : Nat, c ≤ ns.length → (c = ns.length ↔ ns.Nodup) → Q (.int (c : Nat)) H1
theorem pe_lenSetA {X : Cx} {a : Expr} {ta : TE} {p p2 q pos : Pos} (hg : Gl X "len") (hm : X.mg "len" = none) (hg2 : Gl X "set") (hm2 : X.mg "set" = none) (ha : PE X a ta) (hc : X.calm = true := by rfl)
    (na : starEach [a] X.env = (false, eval a X.env) :: starEach [] X.env := by rfl) : PE X (.Call (.Name "len" p) [.Call (.Name "set" p2) [a] [] q] [] pos) (tLenSetA X.K ta) := by
  refine ⟨fun pins s σ H Q I h => ?_⟩
  refine Call_ (ld_blt I hg hm boot_len ?_)
  refine PyProof.Rows.callWith_builtin1 (PyProof.Rows.args_cons ?_ rfl) rfl rfl
  refine Call_ (ld_blt I hg2 hm2 boot_set ?_)
  refine PyProof.Rows.callWith_type1 (PyProof.Rows.args_cons (thn (ha.run pins s σ H _ I h) fun v s1 ⟨x, H1, I1, r1, q1⟩ => PyProof.Rows.args_nil ?_) na) na rfl
  obtain ⟨l, ns, rfl, hq, hl, q1⟩ := q1
  cases r1
  obtain ⟨its, r, pl, hz⟩ := I1.list (SqL.of hq)
  have hlen : its.toArray.size = ns.length := by rw [List.size_toArray, ← r.length]; exact List.length_map _
  refine call_set_list (I1.ok.hd hc) pl.isList (by simpa using RZ.intsAre_vals r) (by rw [hlen]; unfold scanBound; omega) fun h' tk hS hk => ?_
  refine PyProof.Rows.args_nil ?_
  rw [hlen] at hS
  obtain ⟨f1, f2⟩ := fm_len ns ns.length (Nat.le_refl _)
  rw [List.take_length] at f2
  obtain ⟨o, es, ep, t, ho, hex, hd, _, _, _, hf, hn⟩ := hS
  have I2 : Inv X pins σ H1 { s1 with heap := h', toks := tk } := I1.kept fun b o e => hk b o (Heap.lt_size e) e
  exact call_len_set ho hex hd hf (by rw [hn] <;> omega) ⟨.int ((firstMet (fun i => ns.getD i 0) ns.length).length : Nat), H1, I2.tok _, ⟨_, by rw [hn]⟩, q1 _ f1 f2⟩
end Af

set_option Elab.async false
set_option linter.all false
set_option maxRecDepth 100000
set_option maxHeartbeats 3200000
namespace Af
open PySem PySem.Spec PyProof.Rows L2
/-! sorted(set(xs)) of a list of numbers -/
/-- the empty set as it is made -/
abbrev oS (w : World) : Obj := ⟨.type "set", none, .set #[] 0 (.fresh 0 0 (!w.params.followText "set-order")), #[]⟩
section
variable {P : Program} {w : World} {A : Around} {E : Value → Shared → Prop} {s : Shared}
/-- what set(xs) leaves: the set last, the rest as it was -/
def Made (P : Program) (w : World) (s : Shared) (ns : List Int) (h' : Heap) (c : Nat) : Prop :=
  SetR w h' s.heap.objs.size (fun j => decide (j ∈ ns)) c ∧ c ≤ ns.length ∧ ∀ b o, s.heap.get? b = some o → h'.get? b = some o
theorem ints_val {items : Array Value} {ns : List Int} (hit : IntsAre items.toList ns) (hz : items.size = ns.length) : ∀ (i : Nat) (v : Value), items[i]? = some v → ∃ k t, ns[i]? = some k ∧ v = .int k t := fun i v e => by
  have il : i < ns.length := hz ▸ (Array.getElem?_eq_some_iff.mp e).1
  have e2 : items.toList[i]? = some v := (Array.getElem?_toList ..).trans e
  obtain ⟨t, rfl⟩ := hit.int_at i v e2
  refine ⟨_, t, List.getElem?_eq_getElem il, ?_⟩
  simp [List.getD_eq_getElem?_getD, List.getElem?_eq_getElem il]
theorem call_setL {l : Addr} {items : Array Value} (ns : List Int) {Q : Value → Shared → Prop} (hh : A.handled = none) (hl : s.heap.IsList l items) (hit : IntsAre items.toList ns) (hb : ns.length + 1 < scanBound)
    (h : ∀ (h' : Heap) (tk c : Nat), Made P w s ns h' c → Q (.ref s.heap.objs.size) { s with heap := h', toks := tk }) : wpAny (model P w) A (call (.type "set") [.ref l]) Q E s := by
  have hz : items.size = ns.length := (Array.length_toList (xs := items)).symm.trans hit.length
  have C := @F.called_set
  obtain ⟨c0, c1, mro⟩ := C.mro
  have c2 := C.made; have c3 := C.sub; have c4 := C.notType; have c5 := C.canCreate; have c6 := F.typeCall_set_1 (.ref l)
  apply wpAny_call; apply codeAny_of_tree
  change wpAny _ _ (callAny (.type "set") ⟨[.ref l], []⟩) _ _ _
  apply wpAny_pure; refine ⟨Code.quiet_builtin _ (by decide +kernel), ?_⟩; apply codeAny_builtin F.entry_type_call
  rw [Around.under_plain (weight_type_call_type "set" [.ref l] []) rfl]
  repeat (any_goals (first | assumption | wp_step))
  apply codeAny_mono (code_set_led1 (.ref l) (E := E) (Q₁ := fun x z => x = .ref s.heap.objs.size ∧ z = { s with heap := s.heap.push (oS w) }) ⟨rfl, rfl⟩)
  rintro (e | (_ | _ | _ | x)) z hr
  · exact hr
  · exact hr.elim
  · exact hr.elim
  · exact hr.elim
  obtain ⟨rfl, rfl⟩ := hr
  have at0 : (s.heap.push (oS w)).get? s.heap.objs.size = some (oS w) := Heap.get?_push_size _ rfl
  have ty0 : Shared.TypeIs { s with heap := s.heap.push (oS w) } (.ref s.heap.objs.size) "set" := ⟨_, at0, rfl⟩
  have i1 := C.init.lookup; have i2 := C.init.bind (.ref s.heap.objs.size)
  repeat (any_goals (first | assumption | wp_step))
  apply codeAny_mono (codeAny_call_builtin (R := wants (fun x z => x = .none ∧ ∃ h' tk c, z = { s with heap := h', toks := tk } ∧ Made P w s ns h' c) E) C.init.plain F.entry_set_init (check_set_init_1 ty0 ?_))
  · rintro (e | (_ | _ | _ | x)) z hr
    · exact hr
    · exact hr.elim
    · exact hr.elim
    · exact hr.elim
    obtain ⟨rfl, h', tk, c, rfl, m⟩ := hr
    repeat (any_goals (first | assumption | wp_step))
    exact h h' tk c m
  obtain ⟨⟨cl, dd, dt, sl⟩, ho, e1, nl, e2⟩ := hl
  cases e1; cases e2
  have ho1 : (s.heap.push (oS w)).get? l = some ⟨.type "list", dd, .seq items nl, sl⟩ := Heap.get?_push_of_some _ ho
  have L1 : (s.heap.push (oS w)).IsList l items := ⟨_, ho1, rfl, nl, rfl⟩
  have j1 := F.sub_list_set; have j2 := F.sub_list_frozenset; have j3 : (Value.type "list" == Value.type "dict") = false := by decide
  unfold Builtin.«set.__init__» noKeywords Builtin.Frozenset.updateFrom; generalize hit2 : pyIter = it
  wp_walk
  subst hit2
  apply wpAny_pyIter_list L1; apply wpAny_bind; apply wpAny_runValue
  have ll : l < s.heap.objs.size := Heap.lt_size ho
  have sz : (s.heap.push (oS w)).objs.size = s.heap.objs.size + 1 := Heap.size_push ..
  have d1 : l ≠ (s.heap.push (oS w)).objs.size := by rw [sz]; exact Nat.ne_of_lt (Nat.lt_succ_of_lt ll)
  have d2 : s.heap.objs.size ∉ [(s.heap.push (oS w)).objs.size, l] := by
    rw [sz]; intro z
    rcases List.mem_cons.mp z with z | z
    · exact absurd z (Nat.ne_of_lt (Nat.lt_succ_self _))
    · exact absurd (List.mem_singleton.mp z) (Nat.ne_of_gt ll)
  apply set_update_ints ((Walks.list (by simp [hh]) _ l d1 items).toS) s.heap.objs.size d2 ns hz hb (ints_val hit hz) (items.size - 0) 0 _ (by omega) (Nat.zero_le _) ⟨⟨_, Heap.get?_push_size _ rfl, rfl, rfl⟩, L1.push _⟩
  · exact ⟨0, Nat.le_refl 0, setR_new_at (Heap.get?_push_of_some _ at0)⟩
  · rintro ⟨h', g2, dr, tk, os⟩ c mv hc hR
    have m1 : g2 = s.gens := mv.gens; have m2 : dr = s.drawn := mv.drawn; have m3 : os = s.os := mv.os
    subst m1; subst m2; subst m3
    change wpAny _ _ _ _ _ _; apply wpAny_pure
    change wpAny _ _ (ret Value.none) _ _ _; apply wpAny_pure
    refine ⟨rfl, h', tk, c, rfl, hR, hz ▸ hc, fun b o e => mv.heap b o ?_ (Heap.get?_push_of_some _ (Heap.get?_push_of_some _ e))⟩
    have bl : b < s.heap.objs.size := Heap.lt_size e
    rw [sz]; intro z
    rcases List.mem_cons.mp z with z | z
    · exact absurd z (Nat.ne_of_lt bl)
    · exact absurd (List.mem_singleton.mp z) (Nat.ne_of_lt (Nat.lt_succ_of_lt bl))
end
/-- set(xs), as the layer says it -/
def rSetI (K : PySem.W.Frag) (w : World) : List V → Hp → VK → Prop := fun xs H Q => ∃ (l : Addr) (ns : List Int), xs = [.ref l] ∧ H l = some (.lst (ivs ns)) ∧ ns.length ≤ 60 ∧ ∀ a c, H a = none → c ≤ ns.length → Q (.ref a) (upd H a (SetO w a (fun j => decide (j ∈ ns)) c))
theorem cr_setI {X : Cx} (hc : X.calm = true := by rfl) : CallR X (.type "set") (rSetI X.K X.w) := by
  intro pins s σ H xs us Q I r h
  obtain ⟨l, ns, rfl, hl, hn, q⟩ := h
  obtain ⟨u, rfl, ru⟩ := vals1 r
  cases (show u = Value.ref l from ru)
  obtain ⟨its, rv, pl, hz⟩ := I.list (SqL.of hl)
  have hi : IntsAre its.toArray.toList ns := by simpa using RZ.intsAre_vals rv
  refine call_setL (P := X.prog) (w := X.w) ns (I.ok.hd hc) pl.isList hi (by unfold scanBound; omega) fun h' tk c m => ?_
  obtain ⟨m1, m2, m3⟩ := m
  have hf := I.hok.fresh (Nat.le_refl s.heap.objs.size)
  exact ⟨.ref _, upd H s.heap.objs.size (SetO X.w s.heap.objs.size (fun j => decide (j ∈ ns)) c), I.laid (t' := tk) m3 (Nat.le_refl _) (setO_new m1), rfl, q _ _ hf m2⟩
end Af

set_option Elab.async false
set_option linter.all false
set_option maxRecDepth 100000
namespace Af
open PySem PySem.Spec PyProof.Rows L2
/-! a method called where its error is caught -/
section
variable {X : Cx} {CX : CXT} {k : Nat} {f C : Addr} {fd : FuncData} {ps : List Str} {sp : Sp} {E : L2.St → XK} {m : Str} {pos apos : Pos} {e o : Expr} {es : List Expr} {ta : TE} {t : TA}
def tMethX (C : Addr) (m : Str) (sp : Sp) (E : L2.St → XK) (ta : TE) (t : TA) : TE := fun σ H Q => ta σ H fun x G => ∃ a dx fs, x = .ref a ∧ G a = some (.ins C dx fs) ∧ fs.lookup m = none ∧ t σ G fun vs G2 => sp (x :: vs) G2 Q (E σ)
theorem pe_methX {pl : Sem Bool} (he : PE X o ta) (c : Cls X.K C) (hm : Meth X.K C m f) (F : FnOk X.prog X.w X.K X.mg X.base CX k f fd ps sp) (room : Room k X.A) (b : Binds X.K fd ps []) (out : ∀ σ, PassesAt CX X σ (E σ)) (ha : PA X (e :: es) t)
    (h1 : starEach (e :: es) X.env = (false, eval e X.env) :: starEach es X.env := by rfl) (h2 : (backTo pos (starEach es X.env)).any (·.1) = false := by rfl)
    (h3 : eval (.Call (.Attribute o m apos) (e :: es) [] pos) X.env = (do
      let v ← eval o X.env
      standAt apos.atName
      let (g, own) ← holding [v] (getMethod v m pl)
      callWith pos g own (backTo pos (starEach (e :: es) X.env)) (backToKw pos (keywordEach [] X.env))) := by rfl) :
    PE X (.Call (.Attribute o m apos) (e :: es) [] pos) (tMethX C m sp E ta t) := by
  refine ⟨fun pins s σ H Q I h => PySem.W.methodCall_KW (pl := pl) (thn (he.run pins s σ H _ I h) fun u s1 z => ?_) h3⟩
  obtain ⟨x, G, I1, rx, a, dx, fs, ex, ea, l, q⟩ := z
  subst ex
  obtain rfl : u = Value.ref a := rx
  refine getmeth_ok I1 ea c hm l (PySem.W.callWith_K (first := [.ref a]) (h₀ := X.base) I.ok.mod.kin hm.kp (thn (ha.run pos pins s1 σ G _ I1 q) fun us s2 z => ?_) h1 h2)
  obtain ⟨vs, G2, I2, r, q2⟩ := z
  exact ⟨I2.kIn, run_fnS (us := .ref a :: us) (vs := .ref a :: vs) F room b (out σ) I2 (.cons rfl r) q2⟩
end
end Af

set_option Elab.async false
set_option linter.all false
set_option maxRecDepth 100000
namespace Af
open PySem PySem.Calls PySem.Spec PyProof.Rows L2
/-! == and != of an instance whose class has its own __eq__ and no __ne__ -/
section
variable {M : Model} {prog : Program} {w : World} {A : Around} {E : Value → Shared → Prop} {s : Shared} {K : PySem.W.Frag} {x C L f : Addr} {ox : Obj} {od : Option Obj} {b tb : Value} {h₀ : Heap} {m : Str → Option Value}
theorem ifBound_ne {args : List Value} {Q : Option Value → Shared → Prop} (X : K.In s.heap) (I : PySem.W.InstAt s.heap x ox C od) (hs : PySem.W.findIn K (.ref C) "__ne__" = some (some (.builtin "object.__ne__")))
    (h : wpAny M A (call (.builtin "object.__ne__") (.ref x :: args)) (fun v => Q (some v)) E s) : wpAny M A (callSpecialIfBound? (.ref x) "__ne__" args) Q E s := by
  simp only [callSpecialIfBound?, bindSpecialIfBound?]
  refine wpAny_holding (wpAny_bind (wpAny_bind (wpAny_bind (I.type.here ((PySem.W.looks_findIn X hs).here ?_)))))
  refine wpAny_bind (wpAny_askSetting (wpAny_ite ?_))
  have last : wpAny M A (call (.builtin "object.__ne__") ([.ref x] ++ args) >>= fun v => pure (some v)) Q E s := wpAny_bind (wpAny_mono h (fun _ _ q => wpAny_pure q) fun _ _ q => q)
  split
  · exact wpAny_bind (wpAny_of_eq (F.cmp_object.ne.bind _) (wpAny_pure (by exact last)))
  · exact wpAny_tryCatch (wpAny_bind (wpAny_of_eq (F.cmp_object.ne.bind _) (wpAny_pure (by exact last))))
theorem entry_ne {Q : Fin → Shared → Prop} (hu : A.units < cLine) (X : K.In s.heap) (I : PySem.W.InstAt s.heap x ox C od) (hs : PySem.W.findIn K (.ref C) "__eq__" = some (some (.ref f))) (hf : PySem.W.isFn K (.ref f) = true)
    (h : wpAny (model prog w) A (call (.ref f) [.ref x, b]) (fun v s' => ∃ r, v = .bool r ∧ Q (.done (.ret (.bool (!r)))) s') E s) :
    wpAny (model prog w) A (Builtin.«object.__ne__» ⟨[.ref x, b], []⟩) Q E s := by
  unfold Builtin.«object.__ne__»
  repeat (first
    | with_reducible refine wpAny_cRoomFor hu ?_
    | (refine wpAny_bind (m := callSpecialIfBound? (.ref x) (Str.ofString "__eq__") [b])
        (PySem.W.ifBound_K X I hs hf (wpAny_mono h (fun r s' hr => by
          obtain ⟨b, rfl, hq⟩ := hr
          repeat (first | exact hq | exact wpAny_pure hq | exact wpAny_truthy_bool hq | (refine wpAny_bind (m := truthy (.bool _)) (wpAny_truthy_bool ?_)) | wp_step)) fun _ _ e => e)))
    | wp_step)
theorem rc_ne {Q : Value → Shared → Prop} (hu : A.units + 1 < cLine) (Y : PyProof.Rows.Fr h₀ L s.heap m) (X₀ : K.In h₀) (I : PySem.W.InstAt s.heap x ox C od) (hb : PySem.W.Looks (model prog w) s.heap (typeOf b) tb) (hn : PySem.W.notFirst K C tb = true)
    (hs : PySem.W.findIn K (.ref C) "__eq__" = some (some (.ref f))) (hf : PySem.W.isFn K (.ref f) = true) (hne : PySem.W.findIn K (.ref C) "__ne__" = some (some (.builtin "object.__ne__"))) (hm : PySem.W.mroIn K C (.type "object") = some true)
    (h : wpAny (model prog w) A.in1 (call (.ref f) [.ref x, b]) (fun v s' => ∃ r, v = .bool r ∧ Q (.bool (!r)) s') E s) : wpAny (model prog w) A (richCompare .NotEq (.ref x) b) Q E s := by
  have X := X₀.keeps Y.keep
  have one : wpAny (model prog w) A (tryCompare (.ref x) "__ne__" b) (fun r s' => ∃ v, r = some v ∧ Q v s') E s := by
    unfold tryCompare
    refine wpAny_bind (ifBound_ne X I hne (wpAny_call (codeAny_call_builtin F.cmp_object.ne.plain F.cmpEntry_ne (PySem.W.check_slot F.cmpKind_ne F.cmpSplit_ne (I.type.andThen (PySem.W.looks_mroIn X hm)) (F.cmpArgs_ne _ _) (entry_ne (A := A.in1) hu X I hs hf (wpAny_mono h (fun v s' z => ?_) fun _ _ e => e))))))
    obtain ⟨r, rfl, hq⟩ := z
    exact ⟨r, rfl, wpAny_pure ⟨_, rfl, hq⟩⟩
  unfold richCompare
  simp only [oneThing_ref]
  refine wpAny_holding (wpAny_bind (wpAny_cRoomFor (Nat.lt_of_succ_lt hu) ?_))
  refine wpAny_bind (I.type.here (wpAny_bind (hb.here ?_)))
  have go : wpAny (model prog w) A (tryCompare (.ref x) "__ne__" b) (fun r s' => ∃ v, r = some v ∧ Q v s') E s := one
  split
  · rename_i q
    have e : PySem.W.subIn K tb (.ref C) = some false := by
      rcases Bool.or_eq_true_iff.mp hn with e | e
      · rw [beq_iff_eq.mp e] at q; simp at q
      · exact beq_iff_eq.mp e
    refine wpAny_bind ((PySem.W.looks_subIn X e).here ?_)
    simp only [Bool.false_eq_true, if_false]
    refine wpAny_bind (wpAny_mono one (fun r s' z => ?_) fun _ _ e => e)
    obtain ⟨v, rfl, hq⟩ := z
    exact wpAny_pure hq
  · refine wpAny_bind (wpAny_pure ?_)
    simp only [Bool.false_eq_true, if_false]
    refine wpAny_bind (wpAny_mono one (fun r s' z => ?_) fun _ _ e => e)
    obtain ⟨v, rfl, hq⟩ := z
    exact wpAny_pure hq
end
/-- what is asked of the class at C for its own == -/
structure OwnEqC (K : PySem.W.Frag) (C f : Addr) : Prop where
  eq : PySem.W.findIn K (.ref C) "__eq__" = some (some (.ref f))
  fn : PySem.W.isFn K (.ref f) = true
  ne : PySem.W.findIn K (.ref C) "__ne__" = some (some (.builtin "object.__ne__"))
  ob : PySem.W.mroIn K C (.type "object") = some true
/-- x == y where x is an instance: what the own __eq__ promises, which answers a bool -/
def rOwnEq (K : PySem.W.Frag) (C : Addr) (sp : Sp) : R2 := fun x y H Q => ∃ a dx fs t, x = .ref a ∧ H a = some (.ins C dx fs) ∧ TyX K H y t ∧ PySem.W.notFirst K C t = true ∧ sp [x, y] H (fun v H' => ∃ b, v = .bl b ∧ Q (.bl b) H') E0
def rOwnNe (K : PySem.W.Frag) (C : Addr) (sp : Sp) : R2 := fun x y H Q => ∃ a dx fs t, x = .ref a ∧ H a = some (.ins C dx fs) ∧ TyX K H y t ∧ PySem.W.notFirst K C t = true ∧ sp [x, y] H (fun v H' => ∃ b, v = .bl b ∧ Q (.bl (!b)) H') E0
section
variable {X : Cx} {C f : Addr} {fd : FuncData} {ps : List Str} {sp : Sp} {k n : Nat}
theorem own_run (G : FnOk X.prog X.w X.K X.mg X.base CX0 k f fd ps sp) (hb : Binds X.K fd ps []) {A : Around} (hr : Room k A) (hA : A.frames = X.A.frames) {pins : List (Addr × Obj)} {s : Shared} {σ : L2.St} {H : Hp} {x y : V} {v u : Value} (I : Inv X pins σ H s) (rx : RelV x v) (ry : RelV y u)
    {Q : VK} (hq : sp [x, y] H Q E0) : wpAny (model X.prog X.w) A (call (.ref f) [v, u]) (fun r s' => EP X pins σ Q r s') X.xe s := by
  have e0 : Env0 X.prog X.w X.K X.mg X.base A X.stack s H := by
    have e := I.env0
    exact ⟨by rw [hA]; exact e.frames, e.mod, e.bs, e.bsz, e.funs, e.frf, e.hok, e.bare⟩
  have hl := G.len _ _ _ _ hq
  refine wpAny_call (codeAny_mono (G.run A X.stack s H ⟨[v, u], []⟩ [v, u] [x, y] _ E0 hr e0 (by
    have := hb s [v, u] I.kIn (by simpa using hl)
    simpa using this) (.cons rx (.cons ry .nil)) hq) fun r s' z => ?_)
  cases r with
  | error e => exact pass0 pins σ H s e s' I z
  | ok fl =>
    cases fl with
    | ret w => exact I.after z
    | next => exact False.elim z
    | brk => exact False.elim z
    | cont => exact False.elim z
theorem op_ownEq (O : OwnEqC X.K C f) (G : FnOk X.prog X.w X.K X.mg X.base CX0 k f fd ps sp) (hb : Binds X.K fd ps []) (hr : Room n X.A) (hkn : k ≤ n := by decide) : OpR X (compareOp .Eq) (rOwnEq X.K C sp) := by
  intro pins s σ H x y v u Q I rx ry h
  obtain ⟨a, dx, fs, t, rfl, ha, ty, nf, q⟩ := h
  cases (show v = Value.ref a from rx)
  obtain ⟨mA, J, _⟩ := ins_get I.hok ha
  obtain ⟨od, J, _⟩ := J.look
  obtain ⟨P, Z, p, _⟩ := kit_of I ry ty
  obtain ⟨m, hF⟩ := I.fr
  have lk := Z.ty (model X.prog X.w) s.heap I.kIn p
  show wpAny (model X.prog X.w) X.A (richCompare .Eq (.ref a) u) (EP X pins σ Q) X.xe s
  refine PySem.W.cmp_K (op := .Eq) (tb := t) hr.units0 hF I.ok.mod.kin J lk nf O.eq O.fn ?_
  refine wpAny_mono (own_run G hb (hr.mono hkn) rfl (x := .ref a) (v := .ref a) I rfl ry q) (fun r s' z => ?_) fun _ _ z => z
  obtain ⟨v', H', I', rv, b, e, z⟩ := z
  subst e
  cases (show r = Value.bool b from rv)
  exact ⟨.bl b, H', I', rfl, z⟩
theorem op_ownNe (O : OwnEqC X.K C f) (G : FnOk X.prog X.w X.K X.mg X.base CX0 k f fd ps sp) (hb : Binds X.K fd ps []) (hr : Room n X.A) (hkn : k + 1 ≤ n := by decide) : OpR X (compareOp .NotEq) (rOwnNe X.K C sp) := by
  intro pins s σ H x y v u Q I rx ry h
  obtain ⟨a, dx, fs, t, rfl, ha, ty, nf, q⟩ := h
  cases (show v = Value.ref a from rx)
  obtain ⟨mA, J, _⟩ := ins_get I.hok ha
  obtain ⟨od, J, _⟩ := J.look
  obtain ⟨P, Z, p, _⟩ := kit_of I ry ty
  obtain ⟨m, hF⟩ := I.fr
  have lk := Z.ty (model X.prog X.w) s.heap I.kIn p
  show wpAny (model X.prog X.w) X.A (richCompare .NotEq (.ref a) u) (EP X pins σ Q) X.xe s
  have hr' : Room (k + 1) X.A := hr.mono hkn
  refine rc_ne (tb := t) hr'.in1.units0 hF I.ok.mod.kin J lk nf O.eq O.fn O.ne O.ob ?_
  refine wpAny_mono (own_run G hb hr'.in1 rfl (x := .ref a) (v := .ref a) I rfl ry q) (fun r s' z => ?_) fun _ _ z => z
  obtain ⟨v', H', I', rv, b, e, z⟩ := z
  subst e
  cases (show r = Value.bool b from rv)
  exact ⟨b, rfl, .bl (!b), H', I', rfl, z⟩
end
end Af

set_option Elab.async false
set_option linter.all false
set_option maxRecDepth 100000
set_option maxHeartbeats 2000000
namespace Af
open PySem PySem.Calls PySem.Spec PyProof.Rows L2
/-! len(x) of an instance whose class has its own __len__ -/
structure LenC (K : PySem.W.Frag) (C f : Addr) : Prop where
  ln : PySem.W.findIn K (.ref C) "__len__" = some (some (.ref f))
  fn : PySem.W.isFn K (.ref f) = true
def rLenO (C : Addr) (sp : Sp) : List V → Hp → VK → Prop := fun xs H Q => ∃ a dx fs, xs = [.ref a] ∧ H a = some (.ins C dx fs) ∧ sp [.ref a] H (fun v H' => ∃ n : Nat, v = .int (n : Int) ∧ (n : Int) < 2 ^ 63 ∧ Q (.int (n : Int)) H') E0
section
variable {X : Cx} {C f : Addr} {fd : FuncData} {ps : List Str} {sp : Sp} {k n : Nat}
theorem own_run1 (G : FnOk X.prog X.w X.K X.mg X.base CX0 k f fd ps sp) (hb : Binds X.K fd ps []) {A : Around} (hr : Room k A) (hA : A.frames = X.A.frames) {pins : List (Addr × Obj)} {s : Shared} {σ : L2.St} {H : Hp} {x : V} {v : Value} (I : Inv X pins σ H s) (rx : RelV x v)
    {Q : VK} (hq : sp [x] H Q E0) : wpAny (model X.prog X.w) A (call (.ref f) [v]) (fun r s' => EP X pins σ Q r s') X.xe s := by
  have e0 : Env0 X.prog X.w X.K X.mg X.base A X.stack s H := by
    have e := I.env0
    exact ⟨by rw [hA]; exact e.frames, e.mod, e.bs, e.bsz, e.funs, e.frf, e.hok, e.bare⟩
  have hl := G.len _ _ _ _ hq
  refine wpAny_call (codeAny_mono (G.run A X.stack s H ⟨[v], []⟩ [v] [x] _ E0 hr e0 (by
    have := hb s [v] I.kIn (by simpa using hl)
    simpa using this) (.cons rx .nil) hq) fun r s' z => ?_)
  cases r with
  | error e => exact pass0 pins σ H s e s' I z
  | ok fl =>
    cases fl with
    | ret w => exact I.after z
    | next => exact False.elim z
    | brk => exact False.elim z
    | cont => exact False.elim z
theorem call_lenO (O : LenC X.K C f) (G : FnOk X.prog X.w X.K X.mg X.base CX0 k f fd ps sp) (hb : Binds X.K fd ps []) (hr : Room n X.A) (hkn : k + 1 ≤ n := by decide) : CallR X (.builtin "len") (rLenO C sp) := by
  intro pins s σ H xs us Q I r h
  obtain ⟨a, dx, fs, rfl, ha, q⟩ := h
  obtain rfl := Vals.ref1 r
  obtain ⟨mA, J, _⟩ := ins_get I.hok ha
  obtain ⟨od, J, _⟩ := J.look
  have KI := I.kIn
  refine Calls.call_function_entry kind_len plain_len entry_len (args_len1 _) ?_
  unfold Builtin.«len»
  refine wpAny_bind (m := oneArg "len" _) (wpAny_pure ?_)
  refine wpAny_bind (m := callSpecial? (.ref a) (PySem.Str.ofString "__len__")) (PySem.W.special_fn KI J O.ln (beq_iff_eq.mp O.fn) (wpAny_mono (own_run1 G hb (A := X.A.in1) ((hr.mono hkn).in1) rfl (x := .ref a) I rfl q) (fun v s' z => ?_) fun _ _ z => z))
  obtain ⟨v', H', I', rv, m, e, hm, z⟩ := z
  subst e
  obtain ⟨t, rfl⟩ := rv
  refine wpAny_bind (wpAny_holding (wpAny_pure ?_))
  refine wpAny_bind (wpAny_letGo ?_)
  show wpAny _ _ (if ((m : Nat) : Int) < 0 then _ else _) _ _ _
  rw [if_neg (by omega)]
  show wpAny _ _ (if ((m : Nat) : Int) ≥ 2 ^ 63 then _ else _) _ _ _
  rw [if_neg (by omega)]
  exact wpAny_bind (wpAny_mkInt (wpAny_pure ⟨_, rfl, .int (m : Int), H', I'.tok _, ⟨_, rfl⟩, z⟩))
end
end Af

set_option Elab.async false
set_option linter.all false
set_option maxRecDepth 100000
namespace Af
open PySem PySem.Spec PyProof.Rows L2
/-! a method without arguments called where its error is caught; objects that change, and the heap without them -/
section
variable {X : Cx} {CX : CXT} {k : Nat} {f C : Addr} {fd : FuncData} {ps : List Str} {sp : Sp} {E : L2.St → XK} {m : Str} {pos apos : Pos} {o : Expr} {ta : TE}
theorem pe_meth0X {pl : Sem Bool} (he : PE X o ta) (c : Cls X.K C) (hm : Meth X.K C m f) (F : FnOk X.prog X.w X.K X.mg X.base CX k f fd ps sp) (room : Room k X.A) (b : Binds X.K fd ps []) (out : ∀ σ, PassesAt CX X σ (E σ))
    (h3 : eval (.Call (.Attribute o m apos) [] [] pos) X.env = (do
      let v ← eval o X.env
      standAt apos.atName
      let (g, own) ← holding [v] (getMethod v m pl)
      callWith pos g own (backTo pos (starEach [] X.env)) (backToKw pos (keywordEach [] X.env))) := by rfl) :
    PE X (.Call (.Attribute o m apos) [] [] pos) (tMethX C m sp E ta tNil) := by
  refine ⟨fun pins s σ H Q I h => PySem.W.methodCall_KW (pl := pl) (thn (he.run pins s σ H _ I h) fun u s1 z => ?_) h3⟩
  obtain ⟨x, G, I1, rx, a, dx, fs, ex, ea, l, q⟩ := z
  subst ex
  obtain rfl : u = Value.ref a := rx
  refine getmeth_ok I1 ea c hm l (PySem.W.callWith_K0 (first := [.ref a]) I1.kIn hm.kp ?_)
  exact run_fnS (us := [.ref a]) (vs := [.ref a]) F room b (out σ) I1 (.cons rfl .nil) q
theorem pass0A : ∀ σ, PassesAt CX0 X σ ((fun _ => E0) σ) := fun _ _ _ _ _ _ _ h => h.elim
end
/-- an own class, its fields' names -/
structure ObjC (K : PySem.W.Frag) (mg : Str → Option Value) (n : Str) (C : Addr) (fs : List Str) : Prop where
  cl : Cls K C
  no : ∀ f ∈ fs, NoAttr K C f
  mgC : mg n = some (.ref C)
/-- the heap without what stands at L -/
def hl (L : List Addr) (H : Hp) : Hp := fun a => if a ∈ L then none else H a
theorem hl_at {L : List Addr} {H : Hp} {a : Addr} (h : a ∉ L) : hl L H a = H a := if_neg h
theorem hl_in {L : List Addr} {H : Hp} : Same (hl L H) H := fun a o e => by
  unfold hl at e
  by_cases m : a ∈ L
  · rw [if_pos m] at e
    cases e
  · rw [if_neg m] at e
    exact e
theorem hl_not {L : List Addr} {H : Hp} {a : Addr} {o : HO} (e : hl L H a = some o) : a ∉ L := fun m => by
  unfold hl at e
  rw [if_pos m] at e
  cases e
theorem hl_same {L : List Addr} {H H' : Hp} (s : Same H H') : Same (hl L H) (hl L H') := fun a o e => by
  have n := hl_not e
  rw [hl_at n] at e ⊢
  exact s a o e
/-- all stands but what is named -/
def Fr (M : List Addr) (H H' : Hp) : Prop := ∀ a o, a ∉ M → H a = some o → H' a = some o
theorem Fr.refl {M : List Addr} {H : Hp} : Fr M H H := fun _ _ _ e => e
theorem Fr.trans {M : List Addr} {H H1 H2 : Hp} (a : Fr M H H1) (b : Fr M H1 H2) : Fr M H H2 := fun c o n e => b c o n (a c o n e)
theorem Fr.of {M : List Addr} {H H' : Hp} (s : Same H H') : Fr M H H' := fun a o _ e => s a o e
theorem Fr.mono {M N : List Addr} {H H' : Hp} (f : Fr M H H') (h : ∀ a ∈ M, a ∈ N) : Fr N H H' := fun a o n e => f a o (fun m => n (h a m)) e
theorem Fr.hl {M L : List Addr} {H H' : Hp} (f : Fr M H H') (h : ∀ a ∈ M, a ∈ L) : Same (hl L H) (Af.hl L H') := fun a o e => by
  have n := hl_not e
  rw [hl_at n] at e ⊢
  exact f a o (fun m => n (h a m)) e
theorem Fr.upd {M : List Addr} {H H' : Hp} {a : Addr} {o : HO} (f : Fr M H H') (h : a ∈ M) : Fr M H (L2.upd H' a o) := fun b u n e => by
  rw [upd_ne (fun z => n (by rw [z]; exact h))]
  exact f b u n e
theorem Fr.kp {p : Addr} {H H' : Hp} (k : Kp p H H') : Fr [p] H H' := fun a o n e => k a o (.inl fun z => n (by rw [z]; exact List.mem_singleton.mpr rfl)) e
/-- more is hidden that is new -/
theorem hl_more {L N : List Addr} {H H' : Hp} (s : Same (hl L H) (hl L H')) (n : ∀ a ∈ N, H a = none) : Same (hl L H) (hl (N ++ L) H') := fun a o e => by
  have nl := hl_not e
  have e2 := s a o e
  have e1 := hl_in _ _ e
  rw [hl_at nl] at e2
  rw [hl_at (fun m => ?_)]
  · exact e2
  · rcases List.mem_append.mp m with m | m
    · rw [n a m] at e1
      cases e1
    · exact nl m
/-- what is hidden: lists, and instances of the class R -/
def Lok (R : Addr) (L : List Addr) (H : Hp) : Prop := ∀ a ∈ L, (∃ xs, H a = some (.lst xs)) ∨ ∃ dx fs, H a = some (.ins R dx fs)
theorem Lok.same {R : Addr} {L : List Addr} {H H' : Hp} (h : Lok R L H) (s : Same H H') : Lok R L H' := fun a m => by
  rcases h a m with ⟨xs, e⟩ | ⟨dx, fs, e⟩
  · exact .inl ⟨xs, s _ _ e⟩
  · exact .inr ⟨dx, fs, s _ _ e⟩
theorem Lok.upd {R : Addr} {L : List Addr} {H : Hp} {a : Addr} {o : HO} (h : Lok R L H) (n : (∃ xs, o = .lst xs) ∨ ∃ dx fs, o = .ins R dx fs) : Lok R L (L2.upd H a o) := fun b m => by
  by_cases e : b = a
  · subst e
    rw [upd_same]
    rcases n with ⟨xs, rfl⟩ | ⟨dx, fs, rfl⟩
    · exact .inl ⟨xs, rfl⟩
    · exact .inr ⟨dx, fs, rfl⟩
  · rw [upd_ne e]
    exact h b m
theorem Lok.new {R : Addr} {L : List Addr} {H : Hp} {a : Addr} (h : Lok R L H) (n : H a = none) : a ∉ L := fun m => by
  rcases h a m with ⟨xs, e⟩ | ⟨dx, fs, e⟩ <;> (rw [n] at e; cases e)
theorem Lok.tup {R : Addr} {L : List Addr} {H : Hp} {a : Addr} {xs : List V} (h : Lok R L H) (n : H a = some (.tup xs)) : a ∉ L := fun m => by
  rcases h a m with ⟨xs, e⟩ | ⟨dx, fs, e⟩ <;> (rw [n] at e; cases e)
theorem Lok.ins {R C : Addr} {L : List Addr} {H : Hp} {a dx : Addr} {fs : List (Str × V)} (h : Lok R L H) (n : H a = some (.ins C dx fs)) (ne : C ≠ R) : a ∉ L := fun m => by
  rcases h a m with ⟨xs, e⟩ | ⟨dx, fs, e⟩
  · rw [n] at e; cases e
  · rw [n] at e
    have := Option.some.inj e
    injection this with this
    exact ne this
theorem Lok.app {R : Addr} {L N : List Addr} {H : Hp} (h : Lok R L H) (n : Lok R N H) : Lok R (N ++ L) H := fun a m => by
  rcases List.mem_append.mp m with m | m
  · exact n a m
  · exact h a m
theorem putF_len {f : Str} {v u : V} : ∀ {fs : List (Str × V)}, fs.lookup f = some u → (putF f v fs).length = fs.length
  | [], h => by cases h
  | (g, x) :: r, h => by
    unfold putF
    by_cases e : g = f
    · rw [if_pos e]
      rfl
    · rw [if_neg e, List.length_cons, List.length_cons]
      congr 1
      refine putF_len (f := f) (v := v) (u := u) ?_
      rw [List.lookup_cons] at h
      have : (f == g) = false := by simpa using fun z => e z.symm
      rw [this] at h
      exact h
theorem nd_len : ∀ (n : Nat) (l : List Nat), l.Nodup → (∀ k ∈ l, k < n) → l.length ≤ n
  | 0, [], _, _ => Nat.le_refl _
  | 0, x :: _, _, h => absurd (h x List.mem_cons_self) (Nat.not_lt_zero _)
  | n + 1, l, nd, h => by
    have ih := nd_len n (l.erase n) (nd.erase n) fun k hk => by
      have h1 := h k (List.mem_of_mem_erase hk)
      have h2 : k ≠ n := fun e => by
        rw [e] at hk
        exact nd.not_mem_erase hk
      omega
    by_cases m : n ∈ l
    · rw [List.length_erase_of_mem m] at ih
      omega
    · rw [List.erase_of_not_mem m] at ih
      omega
end Af

set_option Elab.async false
set_option linter.all false
set_option maxRecDepth 100000
set_option maxHeartbeats 16000000
namespace Af
open PySem L2
abbrev s_law : Stmt := top 32
abbrev N_law : List Str := ["_law_script", "_law_pen_here", "_law_turn", "_law_row", "_law_again", "_law_one", "_law_two", "_law_seen", "_law_once_more", "_law_found", "_law_due", "_law_k", "_law_spot"]
theorem sc_law : FnScope N_law ["_law_script"] (defScope s_law) := ⟨rfl, rfl, rfl, by decide +kernel, rfl, by decide +kernel, by decide +kernel⟩

theorem cr_setKW {X : Cx} {K : PySem.W.Frag} {w : World} (hK : X.K = K) (hw : X.w = w) (hc : X.calm = true) : CallR X (.type "set") (rSetI K w) := by
  subst hK hw
  exact cr_setI hc
theorem cr_sortedSetW {X : Cx} {w : World} (hw : X.w = w) (hc : X.calm = true) : CallR X (.builtin "sorted") (rSortedSet w) := by
  subst hw
  exact cr_sortedSet hc
def metD (rs : Ptn) : PyData := if noneP rs = true then .none else patD rs
theorem dx_met {K : PySem.W.Frag} {H : Hp} {v : V} {rs : Ptn} (h : MetV H v rs) : Dx K H v (metD rs) := by
  unfold MetV at h
  unfold metD
  by_cases c : noneP rs = true
  · rw [if_pos c] at h ⊢
    rw [h]
    exact .non
  · rw [if_neg c] at h ⊢
    obtain ⟨a, rfl, p⟩ := h
    exact dx_pat p
theorem both_ok {n : Nat} {ps qs : Ptn} (oa : OkPt n ps) (c : ¬ noneP (bothP ps qs (List.range n)) = true) : OkPt n (bothP ps qs (List.range n)) := by
  have mm : ∀ p ∈ bothP ps qs (List.range n), ∃ k, k < n ∧ p = (k, cutP ps qs k) := fun p hp => by
    obtain ⟨k, hk, rfl⟩ := List.mem_map.mp hp
    exact ⟨k, List.mem_range.mp (List.mem_filter.mp hk).1, rfl⟩
  refine ⟨both_nd ps qs n, fun p hp => ?_, fun p hp e => ?_, fun p hp => ?_, fun p hp => ?_⟩
  · exact bothP_lt p hp
  · exact c (List.any_eq_true.mpr ⟨p, hp, by rw [e]; rfl⟩)
  · obtain ⟨k, _, rfl⟩ := mm p hp
    exact (gP_asc oa k).1.filter _
  · obtain ⟨k, _, rfl⟩ := mm p hp
    exact fun z hz => (gP_asc oa k).2 z (List.mem_filter.mp hz).1
theorem bd_met {n : Nat} {ps qs : Ptn} (oa : OkPt n ps) (n24 : n ≤ 24) : Bd 31000 4 (metD (bothP ps qs (List.range n))) := by
  unfold metD
  by_cases c : noneP (bothP ps qs (List.range n)) = true
  · rw [if_pos c]
    exact (Bd.flat rfl).mono (by decide) (by decide)
  · rw [if_neg c]
    exact bd_pat (both_ok oa c) n24 (by have := bothP_len (ps := ps) (qs := qs) (i := n); omega)
theorem pick {d : Int} (i : Nat) (d0 : 0 ≤ d) (d1 : d < 6) : ∃ N : Nat, atI [V.int 1, .int 24, .int (1 + d)] ((0 + (i : Int)) % 3) = some (.int (N : Nat)) ∧ 1 ≤ N ∧ N ≤ 24 := by
  have h : (0 + (i : Int)) % 3 = 0 ∨ (0 + (i : Int)) % 3 = 1 ∨ (0 + (i : Int)) % 3 = 2 := by omega
  rcases h with h | h | h
  · exact ⟨1, by rw [h]; rfl, by decide, by decide⟩
  · exact ⟨24, by rw [h]; rfl, by decide, by decide⟩
  · refine ⟨(1 + d).toNat, ?_, by omega, by omega⟩
    rw [h, show (((1 + d).toNat : Nat) : Int) = 1 + d by omega]
    rfl
def sp_law (K : PySem.W.Frag) : Sp := fun vs H Q _ => ∃ (a : Addr) (ns : List Int), vs = [.ref a] ∧ SqL K H a (ns.map V.int) ∧ ∀ H', Q (.bl true) H'
section
variable {P : Program} {w : World} {K : PySem.W.Frag} {mg : Str → Option Value} {base : Heap}
theorem ok_law {f IC IP : Addr} {fd : FuncData} (F : Fun K "law" "law" s_law f fd) (T : Txt mg) (t_repr : mg "repr" = none) (t_sorted : mg "sorted" = none) (t_set : mg "set" = none) (t_dict : mg "dict" = none) (c_l_pen : Cal P w K mg base 1 "_law_pen" ["_law_script"] (sp_pen K)) (c_l_draw : Cal P w K mg base 2 "_law_draw" ["_law_pen_here", "_law_under"] sp_draw)
    (c_l_choices : Cal P w K mg base 4 "_law_choices" ["_law_pen_here", "_law_many"] sp_choices) (c_matches : CalX P w K mg base 6 "matches" ["pattern", "content"] (sp_matches K IC IP)) (c_both : CalX P w K mg base 6 "both" ["cells", "pattern", "other"] (sp_both K IP))
    (c_l_is_met : Cal P w K mg base 1 "_law_is_met" ["_law_pattern_here", "_law_content_here"] sp_agrees) (c_l_both : Cal P w K mg base 1 "_law_both" ["_law_one", "_law_other"] sp_lboth)
    (c_l_changed_right : Cal P w K mg base 8 "_law_changed_right" ["_law_pen_here", "_law_row", "_law_one", "_law_two"] sp_changed) (c_l_refused : CalG P w K mg base 8 "_law_refused" ["_law_pen_here", "_law_row", "_law_pattern_here"] sp_refused) : FnG P w K mg base 9 f fd ["_law_script"] (sp_law K) := by
  refine okG F sc_law (fun vs H Q E h => ?_) (fun cdv A outer s H vs Q E hr hg h => ?_)
  · obtain ⟨_, _, rfl, _⟩ := h
    rfl
  obtain ⟨a, ns, rfl, ha, k⟩ := h
  refine ⟨_, (pss_cons (ps_set (i := 1) sc_law.nd rfl (Or.inr rfl) (pe_cal c_l_pen hr (pa_cons (pv 0) pa_nil)))
    (pss_cons (ps_for PassesOwn.never rfl (pi_range1 rfl T.range (pa_cons pe_int pa_nil)) (pg_name (i := 2) sc_law.nd rfl (Or.inl rfl))
      (pss_cons (ps_set (i := 3) sc_law.nd rfl (Or.inr rfl) (pe_callTy call_tuple' (by rfl) T.tuple (by decide +kernel) (pa_cons (pe_lc (own := [("_law_k", 11)]) (g := (gName 11)) (tt := tYes) rfl sc_law.nd (pi_range1 rfl T.range (pa_cons (pe_ix ix_seq' (pe_lst' (pa_cons pe_int (pa_cons pe_int (pa_cons (pe_op op_add pe_int (pe_cal c_l_draw hr (pa_cons (pv 1) (pa_cons pe_int pa_nil)))) pa_nil)))) (pe_op op_mod (pe_callTy call_int1 (by rfl) T.int (by decide +kernel) (pa_cons (pv 2) pa_nil)) pe_int) (fun _ _ => rfl)) pa_nil)) (blkOk_by (own := [("_law_k", 11)]) (N := N_law) (sc := defScope s_law) (by decide +kernel)) (fun _ _ _ _ _ => pg_name (i := 11) sc_law.nd rfl (Or.inl rfl)) (fun _ _ _ _ _ => pts_nil) (fun _ _ _ _ _ => (pe_cal c_l_draw hr (pa_cons (pv 1) (pa_cons pe_int pa_nil))))) pa_nil)))
    (pss_cons (ps_for PassesOwn.never rfl (pi_range1 rfl T.range (pa_cons pe_int pa_nil)) (pg_name (i := 4) sc_law.nd rfl (Or.inl rfl))
      (pss_cons (ps_set (i := 5) sc_law.nd rfl (Or.inl rfl) (pe_cal c_l_choices hr (pa_cons (pv 1) (pa_cons (pe_callB call_len' (by rfl) T.len (by decide +kernel) (pa_cons (pv 3) pa_nil)) pa_nil))))
    (pss_cons (ps_set (i := 6) sc_law.nd rfl (Or.inl rfl) (pe_cal c_l_choices hr (pa_cons (pv 1) (pa_cons (pe_callB call_len' (by rfl) T.len (by decide +kernel) (pa_cons (pv 3) pa_nil)) pa_nil))))
    (pss_cons (ps_cut (ps_if (pt_cmpR op_gt (pv 4) pe_int (nomark _))
      (pss_one (ps_set (i := 5) sc_law.nd rfl (Or.inl rfl) (pe_callTy (call_dictP rfl) (by rfl) t_dict (by decide +kernel) (pa_cons (pe_lock (pe_lc (own := [("_law_spot", 12)]) (g := (gName 12)) (tt := tYes) rfl sc_law.nd (pi_keys (pv 5)) (blkOk_by (own := [("_law_spot", 12)]) (N := N_law) (sc := defScope s_law) (by decide +kernel)) (fun _ _ _ _ _ => pg_name (i := 12) sc_law.nd rfl (Or.inl rfl)) (fun _ _ _ _ _ => pts_nil) (fun _ _ _ _ _ => (pe_tup' (pa_cons (pv 12) (pa_cons (pe_callTy call_tuple' (by rfl) T.tuple (by decide +kernel) (pa_cons (pe_callB (cr_sortedSetW (w := w) rfl rfl) (by rfl) t_sorted (by decide +kernel) (pa_cons (pe_callTy (cr_setKW (K := K) (w := w) rfl rfl rfl) (by rfl) t_set (by decide +kernel) (pa_cons (pe_lst' (pa_cons (pe_ix ix_seq' (pv 3) (pv 12) (fun _ _ => rfl)) (pa_cons (pe_cal c_l_draw hr (pa_cons (pv 1) (pa_cons pe_int pa_nil))) pa_nil))) pa_nil)) pa_nil)) pa_nil)) pa_nil)))))) pa_nil))))
      pss_nil))
    (pss_cons (ps_set (i := 7) sc_law.nd rfl (Or.inl rfl) (pe_callB (call_reprX hg hr.units) (by rfl) t_repr (by decide +kernel) (pa_cons (pe_lst' (pa_cons (pv 5) (pa_cons (pv 6) (pa_cons (pv 3) pa_nil)))) pa_nil)))
    (pss_cons (ps_for PassesOwn.never rfl (pi_range1 rfl T.range (pa_cons pe_int pa_nil)) (pg_name (i := 8) sc_law.nd rfl (Or.inl rfl))
      (pss_cons (ps_set (i := 9) sc_law.nd rfl (Or.inl rfl) (pe_calX (E := fun _ => E0) c_both hr (passN rfl rfl) (pa_cons (pe_callB call_len' (by rfl) T.len (by decide +kernel) (pa_cons (pv 3) pa_nil)) (pa_cons (pv 5) (pa_cons (pv 6) pa_nil)))))
    (pss_cons (ps_set (i := 10) sc_law.nd rfl (Or.inl rfl) (pe_cal c_l_both hr (pa_cons (pv 5) (pa_cons (pv 6) pa_nil))))
    (pss_cons (ps_cut (ps_if (PW.pt (pw_or (pt_cmpR op_ne (pe_callB (call_reprX hg hr.units) (by rfl) t_repr (by decide +kernel) (pa_cons (pv 9) pa_nil)) (pe_callB (call_reprX hg hr.units) (by rfl) t_repr (by decide +kernel) (pa_cons (pv 10) pa_nil)) (nomark _)) (pw_or1 (pt_cmpR op_ne (pe_callB (call_reprX hg hr.units) (by rfl) t_repr (by decide +kernel) (pa_cons (pe_calX (E := fun _ => E0) c_matches hr (passN rfl rfl) (pa_cons (pv 5) (pa_cons (pv 3) pa_nil))) pa_nil)) (pe_callB (call_reprX hg hr.units) (by rfl) t_repr (by decide +kernel) (pa_cons (pe_cal c_l_is_met hr (pa_cons (pv 5) (pa_cons (pv 3) pa_nil))) pa_nil)) (nomark _)))))
      (pss_one (ps_ret pe_bl))
      pss_nil))
    (pss_cons (ps_if (pt_cmpR op_ne (pe_callB (call_reprX hg hr.units) (by rfl) t_repr (by decide +kernel) (pa_cons (pe_lst' (pa_cons (pv 5) (pa_cons (pv 6) (pa_cons (pv 3) pa_nil)))) pa_nil)) (pv 7) (nomark _))
      (pss_one (ps_ret pe_bl))
      pss_nil)
    (pss_one (ps_if (pt_cmpR op_notN (pv 9) pe_non (nomark _))
      (pss_one (ps_expr (pe_bm0 PySem.F.plainAttrs_dict PySem.F.slot_dict_clear PySem.F.type_dict_clear mtd_clear (pv 9))))
      pss_nil)))))))
    (pss_one (ps_if (pt_not (pt_val (pe_cal c_l_changed_right hr (pa_cons (pv 1) (pa_cons (pv 3) (pa_cons (pv 5) (pa_cons (pv 6) pa_nil)))))))
      (pss_one (ps_ret pe_bl))
      pss_nil))))))))
    (pss_one (ps_if (pt_not (pt_val (pe_calG c_l_refused hr hg (pa_cons (pv 1) (pa_cons (pv 3) (pa_cons (pv 5) pa_nil))))))
      (pss_one (ps_ret pe_bl))
      pss_nil)))))
    (pss_one (ps_ret pe_bl)))), ?_⟩
  refine ⟨_, rfl, a, ns, rfl, ha, fun q H1 s1 nqp nqc pn1 => ⟨12, rfl, by decide, by decide, for_range (n := 12) (lo := 0) (fun i σ' H' => ∃ v2 v3 v4 v5 v6 v7 v8 v9 v10, σ' = [some (.ref a), some (.ref q.p), v2, v3, v4, v5, v6, v7, v8, v9, v10, none, none] ∧ Pen q (20000 * i) H') ?_ ?_ ?_⟩⟩
  · exact ⟨_, _, _, _, _, _, _, _, _, rfl, pn1⟩
  · rintro i σ' H2 hi ⟨v2, v3, v4, v5, v6, v7, v8, v9, v10, rfl, pn2⟩
    clear ha s1
    refine ⟨_, rfl, q, _, 6, rfl, by decide, by decide, pn2, by omega, fun d H3 d0 d1 g3 => ⟨_, _, rfl, rfl, szr, fun li H4 n4 s4 h4 => ?_⟩⟩
    obtain ⟨N, hN, N1, N24⟩ := pick i d0 d1
    refine ⟨_, rfl, .inl ⟨_, rfl, _, _, rfl, rfl, (show (0 : Int) < 3 by decide), li, _, _, _, rfl, rfl, .inl h4, hN, _, rfl, by omega, by omega, ?_⟩⟩
    refine lc_draws (q := q) (m := 20000 * i + 1) (u := 8) (g3.pen.same s4) (by omega) (fun x => rfl) (fun x H4 Q m4 p4 h4 kk => ⟨_, rfl, q, m4, 8, rfl, by decide, by decide, p4, by omega, kk⟩) (fun D H5 cs nD g5 h5 l5 b5 => ⟨D, _, rfl, .inl h5, fun ca H6 s6 h6 => ?_⟩)
    have lN : cs.length = N := by
      have : cs.length = ((N : Nat) : Int).toNat := l5
      omega
    have co6 : CoV H6 ca cs := ⟨h6, by omega, by omega, b5⟩
    have pn6 : Pen q (20000 * i + 100) H6 := (g5.pen.same s6).mono (by omega)
    clear g3 g5 h5 s4 h4 pn2
    refine ⟨4, rfl, by decide, by decide, for_range (n := 4) (lo := 0) (fun r σ' H' => ∃ v4 v5 v6 v7 v8 v9 v10, σ' = [some (.ref a), some (.ref q.p), some (.int (0 + (i : Int))), some (.ref ca), v4, v5, v6, v7, v8, v9, v10, none, none] ∧ Pen q (20000 * i + 100 + 2000 * r) H' ∧ CoV H' ca cs ∧ (r = 0 ∨ ∃ o ps, v5 = some (.ref o) ∧ PatV H' o ps ∧ OkPt cs.length ps)) ?_ ?_ ?_⟩
    · exact ⟨_, _, _, _, _, _, _, rfl, pn6, co6, .inl rfl⟩
    · rintro r σ' H7 hr4 ⟨v4, v5, v6, v7, v8, v9, v10, rfl, pn7, co7, -⟩
      clear pn6 co6 h6 s6
      refine ⟨_, rfl, _, rfl, ca, _, rfl, .inr co7.h, ?_⟩
      rw [ivs_len]
      refine ⟨q, _, cs.length, rfl, pn7, by omega, co7.l1, co7.l24, fun o1 H8 p1 g8 no1 hp1 ok1 pl1 => ?_⟩
      have co8 := co7.kp g8.kp
      refine ⟨_, rfl, _, rfl, ca, _, rfl, .inr co8.h, ?_⟩
      rw [ivs_len]
      refine ⟨q, _, cs.length, rfl, g8.pen, by omega, co8.l1, co8.l24, fun b H9 qs g9 nb hq okq plq => ?_⟩
      have co9 := co8.kp g9.kp
      have hp9 := hp1.kp g9.kp
      have pn9 : Pen q (20000 * i + 100 + 2000 * r + 1400) H9 := g9.pen.mono (by omega)
      have o1b : o1 ≠ b := fun e => by
        obtain ⟨rr, hh, _⟩ := hp1.ex
        rw [e, nb] at hh
        cases hh
      refine ⟨fun σ' H' => ∃ o ps, σ' = [some (.ref a), some (.ref q.p), some (.int (0 + (i : Int))), some (.ref ca), some (.int (0 + (r : Int))), some (.ref o), some (.ref b), v7, v8, v9, v10, none, none] ∧ Pen q (20000 * i + 100 + 2000 * r + 1500) H' ∧ CoV H' ca cs ∧ PatV H' o ps ∧ OkPt cs.length ps ∧ PatV H' b qs ∧ o ≠ b, ?_, ?_⟩
      · refine ⟨_, rfl, _, _, rfl, rfl, _, rfl, ite2 (fun _ => ?_) (fun _ => ⟨o1, p1, rfl, pn9.mono (by omega), co9, hp9, ok1, hq, o1b⟩)⟩
        obtain ⟨rows, ho, pr⟩ := hp9.ex
        have rl := paired_len pr
        have pl : p1.length ≤ 24 := by have := okpt_len ok1; omega
        have hop : o1 ≠ q.p := fun e => by
          obtain ⟨z, hz⟩ := pn9.lst
          rw [e, hz] at ho
          cases ho
        refine ⟨o1, _, ho, True.intro, fun od => ?_⟩
        obtain ⟨Hl, eHl⟩ : ∃ Hl, Hl = upd H9 o1 (.frz od (.dK rows)) := ⟨_, rfl⟩
        have lo : Hl o1 = some (.frz od (.dK rows)) := by rw [eHl]; exact upd_same
        have off : ∀ {c : Addr} {u : HO}, H9 c = some u → (∀ rr, u ≠ .dK rr) → c ≠ o1 := fun e n z => by
          rw [z, ho] at e
          exact n _ (Option.some.inj e).symm
        have pnl : Pen q (20000 * i + 100 + 2000 * r + 1400) Hl := by
          obtain ⟨x, n, h1, h2, h3⟩ := pn9.ex
          exact ⟨x, n, by rw [eHl, upd_ne (off h1 (fun r z => by cases z))]; exact h1, by rw [eHl, upd_ne (off h2 (fun r z => by cases z))]; exact h2, h3⟩
        have col : CoV Hl ca cs := ⟨by rw [eHl, upd_ne (off co9.h (fun r z => by cases z))]; exact co9.h, co9.l1, co9.l24, co9.b⟩
        have pql : PatV Hl b qs := by
          obtain ⟨rb, hb, prb⟩ := hq.ex
          exact ⟨rb, by rw [eHl, upd_ne o1b.symm]; exact hb, by rw [eHl]; exact rows_upd ho (fun l z => by cases z) prb⟩
        rw [← eHl]
        refine ⟨_, rfl, o1, od, rfl, .inl ⟨rows, lo, fun D hD => lc_it (walk_keys (d := o1) (o := od) (kvs := rows)) (fun j H' => Go q (20000 * i + 100 + 2000 * r + 1400 + j) Hl H' ∧ ∃ prs kvs rs, H' D = some (.lst (prs.map V.ref)) ∧ Paired (fun (p : Addr) (kv : L2.Key × V) => H' p = some (.tup [kV kv.1, kv.2])) prs kvs ∧ Paired (RowV H') kvs rs ∧ rs.map (·.1) = (p1.map (·.1)).take j ∧ (∀ p ∈ rs, p.2 ≠ []) ∧ (∀ p ∈ rs, p.2.Pairwise (· < ·)) ∧ ∀ p ∈ rs, ∀ z ∈ p.2, 0 ≤ z ∧ z < 8) ?_ ?_ ?_ ?_⟩⟩
        · exact ⟨Go.of pnl (same_new hD), [], [], [], upd_same, .nil, .nil, rfl, fun p h => (by cases h), fun p h => (by cases h), fun p h => (by cases h)⟩
        · rintro j H' _ ⟨g, _⟩
          exact g.kp _ _ (.inr fun l z => by cases z) lo
        · rintro j x H' H10 hj ⟨g, prs, kvs, rs, hDj, pp, pv', pk, pn3, pa, pg⟩ ⟨rfl, ky, v, hy, rfl⟩
          obtain ⟨p, hp, e1, -⟩ := Af.paired_get pr hy
          have e1 : ky = .inl ((p.1 : Nat) : Int) := e1
          subst e1
          have kb := ok1.kb p (List.mem_of_getElem? hp)
          have co' := col.kp g.kp
          have hDp : D ≠ q.p := (pnl.free hD).1
          obtain ⟨z, ez⟩ : ∃ z, z = cs.getD p.1 0 := ⟨_, rfl⟩
          have hz : (ivs cs)[p.1]? = some (.int z) := by rw [ez]; exact ivs_at kb
          have bz : 0 ≤ z ∧ z < 8 := by
            refine co9.b z ?_
            rw [ez, List.getD_eq_getElem?_getD, List.getElem?_eq_getElem kb]
            exact List.getElem_mem kb
          refine ⟨rfl, _, rfl, _, rfl, _, rfl, ca, _, _, _, rfl, rfl, .inr co'.h, atI_nat hz, _, rfl, q, _, 8, rfl, by decide, by decide, g.pen, by omega, fun d H11 d0 d1 g11 => ⟨szr, fun l5 H12 n12 s12 h12 => ?_⟩⟩
          refine ⟨l5, [z, d], rfl, h12, (show 2 ≤ 60 by decide), fun a6 c n6 hc => ⟨a6, _, c, rfl, upd_same, Nat.lt_of_le_of_lt hc (show 2 < 64 by decide), fun ns p7 asc mem ln n7 => ⟨p7, _, rfl, .inl upd_same, fun t8 H13 s13 h13 => ⟨szr, fun t9 H14 n14 s14 h14 => ?_⟩⟩⟩⟩
          have sAll : Same H11 H14 := s12.trans ((same_new n6).trans ((same_new n7).trans (s13.trans s14)))
          have k14 : Kp q.p H10 H14 := g11.kp.trans (Kp.same sAll)
          have hD14 := k14.lst hDp hDj
          have tk : (p1.map (·.1)).take (j + 1) = (p1.map (·.1)).take j ++ [p.1] := by rw [List.take_succ, List.getElem?_map, hp]; rfl
          have rsl : rs.length ≤ 24 := by
            rw [← List.length_map (as := rs) (f := (·.1)), pk, List.length_take, List.length_map]
            omega
          have offD : ∀ {c : Addr} {xs : List V}, H14 c = some (.tup xs) → c ≠ D := fun e zz => by rw [zz, hD14] at e; cases e
          refine ⟨_, hD14, szl (by rw [List.length_map, paired_len pp, paired_len pv']; omega), (Go.mut pnl hD ((g.trans g11).same sAll)).mono (by omega), prs ++ [t9], kvs ++ [(.inl ((p.1 : Nat) : Int), .ref t8)], rs ++ [(p.1, ns)], by rw [upd_same, List.map_append]; rfl, ?_, ?_, ?_, ?_, ?_, ?_⟩
          · exact paired_app (L2.Paired.mapP pp fun x y e => by
              have e' := k14.tup e
              rw [upd_ne (offD e')]
              exact e') (.cons (by rw [upd_ne (offD h14)]; exact h14) .nil)
          · exact paired_app (rows_upd hD14 (fun l z => by cases z) (rows_kp k14 pv')) (.cons ⟨rfl, t8, rfl, by rw [upd_ne (offD (s14 _ _ h13))]; exact s14 _ _ h13⟩ .nil)
          · rw [List.map_append, pk, tk]
            rfl
          · intro y hy
            rcases List.mem_append.mp hy with hy | hy
            · exact pn3 y hy
            · rw [List.mem_singleton.mp hy]
              intro e
              have : z ∈ ns := (mem z).mpr (by simp)
              have e : ns = [] := e
              rw [e] at this
              cases this
          · intro y hy
            rcases List.mem_append.mp hy with hy | hy
            · exact pa y hy
            · rw [List.mem_singleton.mp hy]
              exact asc
          · intro y hy
            rcases List.mem_append.mp hy with hy | hy
            · exact pg y hy
            · rw [List.mem_singleton.mp hy]
              intro w hw
              have : w ∈ [z, d] := by simpa using (mem w).mp hw
              simp only [List.mem_cons, List.not_mem_nil, or_false] at this
              rcases this with rfl | rfl
              · exact bz
              · exact ⟨d0, d1⟩
        · rintro H10 ⟨g, prs, kvs, rs, hDj, pp, pv', pk, pn3, pa, pg⟩
          have hoF : H10 o1 = some (.frz od (.dK rows)) := g.kp _ _ (.inr fun l z => by cases z) lo
          refine ⟨hoF, ?_⟩
          rw [rl, ← List.length_map (as := p1) (f := (·.1)), List.take_length] at pk
          rw [rl] at g
          have offT : ∀ {c : Addr} {xs : List V}, H10 c = some (.tup xs) → c ≠ o1 := fun e zz => by rw [zz, hoF] at e; cases e
          have offL : ∀ {c : Addr} {xs : List V}, H10 c = some (.lst xs) → c ≠ o1 := fun e zz => by rw [zz, hoF] at e; cases e
          have rsl : rs.length ≤ 24 := by rw [← List.length_map (as := rs) (f := (·.1)), pk, List.length_map]; exact pl
          have hD' : (upd H10 o1 (.dK rows)) D = some (.lst (prs.map V.ref)) := by rw [upd_ne (offL hDj)]; exact hDj
          refine ⟨D, prs, kvs, rfl, SqL.of hD', L2.Paired.mapP pp fun x y e => SqT.of (by rw [upd_ne (offT e)]; exact e), fun pN nN => ?_⟩
          have nd : (rs.map (·.1)).Nodup := by rw [pk]; exact ok1.nd
          have ek := rows_keys pv'
          have mg : mergeK [] kvs = kvs := by
            rw [merge_rows kvs [] (by rw [List.nil_append, ek]; exact List.pairwise_map.mpr ((List.pairwise_map.mp nd).imp fun {a b} z e => z (by injection e; omega)))]
            rfl
          rw [mg]
          have sN := same_new (o := .dK kvs) nN
          have fr1 : Fr [o1] H10 (upd (upd H10 o1 (.dK rows)) pN (.dK kvs)) := (Fr.refl.upd (by simp)).trans (Fr.of sN)
          have tup1 : ∀ {c : Addr} {xs : List V}, H10 c = some (.tup xs) → (upd (upd H10 o1 (.dK rows)) pN (.dK kvs)) c = some (.tup xs) := fun e => fr1 _ _ (by simp [offT e]) e
          have pn10 : Pen q (20000 * i + 100 + 2000 * r + 1500) (upd (upd H10 o1 (.dK rows)) pN (.dK kvs)) := by
            have := g.pen.mono (m' := 20000 * i + 100 + 2000 * r + 1500) (by omega)
            obtain ⟨x, n, h1, h2, h3⟩ := this.ex
            exact ⟨x, n, fr1 _ _ (by simp [offL h1]) h1, fr1 _ _ (by simp [offL h2]) h2, h3⟩
          have co10 : CoV (upd (upd H10 o1 (.dK rows)) pN (.dK kvs)) ca cs := ⟨tup1 (g.kp.tup col.h), col.l1, col.l24, col.b⟩
          obtain ⟨rb, hb, prb⟩ := (pql.kp g.kp).ex
          have pb10 : PatV (upd (upd H10 o1 (.dK rows)) pN (.dK kvs)) b qs := ⟨rb, fr1 _ _ (by simp [o1b.symm]) hb, L2.Paired.mapP prb fun x y ⟨e1, t, e2, h⟩ => ⟨e1, t, e2, tup1 h⟩⟩
          have pNb : pN ≠ b := fun e => by
            rw [e, upd_ne o1b.symm, hb] at nN
            cases nN
          exact ⟨pN, rs, rfl, pn10, co10, ⟨kvs, upd_same, L2.Paired.mapP pv' fun x y ⟨e1, t, e2, h⟩ => ⟨e1, t, e2, tup1 h⟩⟩, ⟨nd, fun p hp => by
            have : p.1 ∈ p1.map (·.1) := by rw [← pk]; exact List.mem_map.mpr ⟨p, hp, rfl⟩
            obtain ⟨y, hy, e⟩ := List.mem_map.mp this
            rw [← e]
            exact ok1.kb y hy, pn3, pa, pg⟩, pb10, pNb⟩
      · rintro σ' H10 ⟨o, ps, rfl, pn10, co10, pp10, ok10, pq10, ob⟩
        have okpl := okpt_len ok10
        have okql := okpt_len okq
        have rp : ∀ {G : Hp} {tl : Addr}, Same H10 G → G tl = some (.lst [.ref o, .ref b, .ref ca]) → ∃ D : PyData, D = .list [patD ps, patD qs, .tuple (dvs cs)] ∧ Dx K G (.ref tl) D ∧ Bd 400000 10 D := fun s h => by
          refine ⟨_, rfl, .lst h (.cons (dx_pat (pp10.same s)) (.cons (dx_pat (pq10.same s)) (.cons (co10.same s).dx .nil))), ?_⟩
          refine (Bd.lst (b := 60000) (n := 8) (k := 3) (ds := [patD ps, patD qs, .tuple (dvs cs)]) (fun e he => ?_) (Nat.le_refl 3)).mono (by decide) (by decide)
          simp only [List.mem_cons, List.not_mem_nil, or_false] at he
          rcases he with rfl | rfl | rfl
          · exact (bd_pat ok10 co10.l24 (by omega)).mono (by decide) (by decide)
          · exact (bd_pat okq co10.l24 (by omega)).mono (by decide) (by decide)
          · exact (bd_co co10).mono (by decide) (by decide)
        have l24 := co10.l24
        refine ⟨_, rfl, _, rfl, _, rfl, szr, fun tl H11 n11 s11 h11 => ?_⟩
        obtain ⟨DD, eD, xD, bD⟩ := rp s11 h11
        refine ⟨_, DD, rfl, xD, bD.sh, Nat.le_trans bD.dp (by decide), Nat.le_trans bD.tx (by decide), ?_⟩
        refine ⟨2, rfl, by decide, by decide, for_range (n := 2) (lo := 0) (fun j σ' H' => ∃ v8 v9 v10, σ' = [some (.ref a), some (.ref q.p), some (.int (0 + (i : Int))), some (.ref ca), some (.int (0 + (r : Int))), some (.ref o), some (.ref b), some (.str DD.shown), v8, v9, v10, none, none] ∧ Same H11 H') ?_ ?_ ?_⟩
        · exact ⟨_, _, _, rfl, Same.refl _⟩
        · rintro j σ' H12 hj ⟨w8, w9, w10, rfl, s12⟩
          have S12 := s11.trans s12
          refine ⟨_, rfl, ca, _, rfl, .inr (S12 _ _ co10.h), _, rfl, _, rfl, .ref o, .ref b, cs.length, patD ps, patD qs, by rw [ivs_len], dx_pat (pp10.same S12), dx_pat (pq10.same S12), pat_sz ok10 (by omega), pat_sz okq (by omega), .inr ⟨o, b, ps, qs, rfl, rfl, pp10.same S12, pq10.same S12, ok10, okq, l24, fun va J1 sa ma na => ?_⟩⟩
          have Sa := S12.trans sa
          refine ⟨_, rfl, _, rfl, o, b, cs.length, ps, qs, rfl, pp10.same Sa, pq10.same Sa, ok10, okq, l24, fun vb J2 sb mb => ?_⟩
          have Sb := Sa.trans sb
          have ma2 := ma.same sb
          have bm := bd_met (qs := qs) ok10 l24
          refine ⟨fun σ' H' => σ' = [some (.ref a), some (.ref q.p), some (.int (0 + (i : Int))), some (.ref ca), some (.int (0 + (r : Int))), some (.ref o), some (.ref b), some (.str DD.shown), some (.int (0 + (j : Int))), some va, some vb, none, none] ∧ Same J2 H', ?_, ?_⟩
          · refine ⟨_, rfl, va, _, rfl, dx_met ma2, bm.sh, Nat.le_trans bm.dp (by decide), Nat.le_trans bm.tx (by decide), ?_⟩
            refine ⟨_, rfl, vb, _, rfl, dx_met mb, bm.sh, Nat.le_trans bm.dp (by decide), Nat.le_trans bm.tx (by decide), rfl, _, rfl, iteF' (by simp) ?_⟩
            refine ⟨_, rfl, _, rfl, .ref o, .ref ca, patD ps, .tuple (dvs cs), rfl, dx_pat (pp10.same Sb), (co10.same Sb).dx, pat_sz ok10 (by omega), (co10.same Sb).wd, .inr ⟨ca, cs, rfl, co10.same Sb, rfl, .inr ⟨o, ps, rfl, pp10.same Sb, ok10, fun J3 s3 => ?_⟩⟩⟩
            have fb : Bd 45 1 (.bool (agB ps cs)) := Bd.flat fl_bl
            refine ⟨_, .bool (agB ps cs), rfl, .bl _, fb.sh, Nat.le_trans fb.dp (by decide), Nat.le_trans fb.tx (by decide), ?_⟩
            have S3 := Sb.trans s3
            refine ⟨_, rfl, _, rfl, o, ca, cs.length, ps, cs, rfl, pp10.same S3, ok10, by omega, (co10.same S3).h, Nat.le_refl _, fun J4 s4 => ?_⟩
            refine ⟨_, .bool (agB ps cs), rfl, .bl _, fb.sh, Nat.le_trans fb.dp (by decide), Nat.le_trans fb.tx (by decide), rfl, _, rfl, iteF' (by simp) ⟨rfl, s3.trans s4⟩⟩
          · rintro σ' J5 ⟨rfl, s5⟩
            have S5 := Sb.trans s5
            refine ⟨_, rfl, _, rfl, _, rfl, szr, fun t6 J6 n6 s6 h6 => ?_⟩
            have S6 := S5.trans s6
            obtain ⟨DD', eD', xD', bD'⟩ := rp S6 h6
            refine ⟨_, DD', rfl, xD', bD'.sh, Nat.le_trans bD'.dp (by decide), Nat.le_trans bD'.tx (by decide), _, rfl, rfl, _, rfl, ?_⟩
            rw [eD', eD]
            refine iteF' (by simp) ?_
            have s16 : Same H12 J6 := sa.trans (sb.trans (s5.trans s6))
            have m6 := ma2.same (s5.trans s6)
            unfold MetV at m6
            by_cases c : noneP (bothP ps qs (List.range cs.length)) = true
            · rw [if_pos c] at m6
              subst m6
              exact ⟨_, rfl, rfl, _, rfl, iteF ⟨_, _, _, rfl, s12.trans s16⟩⟩
            · rw [if_neg c] at m6
              obtain ⟨cc, rfl, pc⟩ := m6
              obtain ⟨rc, hc, _⟩ := pc.ex
              have nc : H12 cc = none := na cc rfl
              refine ⟨_, rfl, rfl, _, rfl, iteT' (by simp) ⟨_, rfl, .inr (.inr (.inl ⟨rfl, .inl ⟨_, hc⟩⟩)), cc, rc, rfl, rfl, hc, ?_⟩⟩
              exact ⟨_, _, _, rfl, s12.trans (same_mut s16 nc)⟩
        · rintro σ' H12 ⟨w8, w9, w10, rfl, s12⟩
          have S12 := s11.trans s12
          refine ⟨_, rfl, _, rfl, _, rfl, _, rfl, q, _, ca, o, b, cs, ps, qs, rfl, pn10.same S12, by omega, co10.same S12, pp10.same S12, pq10.same S12, ok10, okq, ob, fun H13 ps' z ok' => ⟨true, rfl, iteF ?_⟩⟩
          exact ⟨_, _, _, _, _, _, _, rfl, z.pen.mono (by omega), z.co, .inr ⟨o, ps', rfl, z.pa, ok'⟩⟩
    · rintro σ' H7 ⟨v4, v5, v6, v7, v8, v9, v10, rfl, pn7, co7, e | ⟨o, ps, rfl, hp, ok⟩⟩
      · exact absurd e (by decide)
      · refine ⟨_, rfl, _, rfl, _, rfl, q, _, ca, o, cs, ps, rfl, pn7, by omega, co7, hp, ok, fun H8 g8 => ⟨true, rfl, iteF ⟨_, _, _, _, _, _, _, _, _, rfl, g8.pen.mono (by omega)⟩⟩⟩
  · rintro σ' H2 _
    exact k H2
end
end Af

set_option Elab.async false
set_option linter.all false
set_option maxRecDepth 100000
set_option maxHeartbeats 4000000
namespace Af
open PySem L2
def tyV : Value → Bool
  | .type _ => true
  | _ => false
theorem mro_ty : ∀ n ∈ tyNames, (fastBuiltinMro n).elim false (·.all tyV) = true := by decide +kernel
theorem sub_ty {K : PySem.W.Frag} {C : Addr} {n : String} (h : n ∈ tyNames) : PySem.W.subIn K (.type n) (.ref C) = some false := by
  have q := mro_ty n h
  show (fastBuiltinMro n).map (·.contains (.ref C)) = some false
  cases e : fastBuiltinMro n with
  | none =>
    rw [e] at q
    cases q
  | some l =>
    rw [e] at q
    show some (l.contains (.ref C)) = some false
    congr 1
    refine Bool.eq_false_iff.mpr fun z => ?_
    have m : Value.ref C ∈ l := by simpa using z
    have := List.all_eq_true.mp q _ m
    cases this
theorem is_own {K : PySem.W.Frag} {t : Value} : PySem.W.kitOne K t t = some true := by
  unfold PySem.W.kitOne
  rw [if_pos (by simp)]
theorem is_no {K : PySem.W.Frag} {C D : Addr} (ic : PySem.W.isClsIn K D = true) (tc : PySem.W.typeIn K (.ref D) = some (.type "type")) (s : PySem.W.subIn K (.ref C) (.ref D) = some false) (n : (Value.ref C == Value.ref D) = false) : PySem.W.kitOne K (.ref C) (.ref D) = some false := by
  unfold PySem.W.kitOne
  rw [if_neg (by rw [n]; decide)]
  show (if ((PySem.W.clsIn K D).isSome && PySem.W.typeIn K (.ref D) == some (.type "type")) = true then PySem.W.subIn K (.ref C) (.ref D) else none) = some false
  rw [if_pos (by rw [tc, show (PySem.W.clsIn K D).isSome = true from ic]; simp)]
  exact s
theorem any_no {K : PySem.W.Frag} {C : Value} {D : Value} {l : List Value} (h : PySem.W.kitOne K C D = some false) (t : PySem.W.kitAny K C l = some false) : PySem.W.kitAny K C (D :: l) = some false :=
  kitAny_cons h (fun _ => t) (fun z => by cases z)
theorem first_not {K : PySem.W.Frag} {C : Addr} {n : String} (h : n ∈ tyNames) : PySem.W.notFirst K C (.type n) = true := by
  unfold PySem.W.notFirst
  rw [sub_ty h]
  simp
theorem is_not {K : PySem.W.Frag} {C : Addr} {n : String} (h : n ∈ tyNames) (ic : PySem.W.isClsIn K C = true) (tc : PySem.W.typeIn K (.ref C) = some (.type "type")) : PySem.W.kitOne K (.type n) (.ref C) = some false := by
  unfold PySem.W.kitOne
  rw [if_neg (by simp)]
  show (if ((PySem.W.clsIn K C).isSome && PySem.W.typeIn K (.ref C) == some (.type "type")) = true then PySem.W.subIn K (.type n) (.ref C) else none) = some false
  rw [if_pos (by rw [tc, show (PySem.W.clsIn K C).isSome = true from ic]; simp)]
  exact sub_ty h
theorem all_mk {l : PySem.W.OpenLaw} {w : World} {K : PySem.W.Frag} {h : Heap} {mg : Str → Option Value} {fa : Addr} (X : K.In h) (G : h.Ns mainGlobals mg) (hfa : mg "law" = some (.ref fa))
    {f1 : Addr} {od1 an1 : Option Addr} {sl1 : Array (Option Value)} {oc1 kV1 dc1 pm1 cd1 ct1 : Value}
    {f2 : Addr} {od2 an2 : Option Addr} {sl2 : Array (Option Value)} {oc2 kV2 dc2 pm2 cd2 ct2 : Value}
    {f3 : Addr} {od3 an3 : Option Addr} {sl3 : Array (Option Value)} {oc3 kV3 dc3 pm3 cd3 ct3 : Value}
    {f4 : Addr} {od4 an4 : Option Addr} {sl4 : Array (Option Value)} {oc4 kV4 dc4 pm4 cd4 ct4 : Value}
    {f5 : Addr} {od5 an5 : Option Addr} {sl5 : Array (Option Value)} {oc5 kV5 dc5 pm5 cd5 ct5 : Value}
    {f6 : Addr} {od6 an6 : Option Addr} {sl6 : Array (Option Value)} {oc6 kV6 dc6 pm6 cd6 ct6 : Value}
    {f7 : Addr} {od7 an7 : Option Addr} {sl7 : Array (Option Value)} {oc7 kV7 dc7 pm7 cd7 ct7 : Value}
    {f8 : Addr} {od8 an8 : Option Addr} {sl8 : Array (Option Value)} {oc8 kV8 dc8 pm8 cd8 ct8 : Value}
    {f9 : Addr} {od9 an9 : Option Addr} {sl9 : Array (Option Value)} {oc9 kV9 dc9 pm9 cd9 ct9 : Value}
    {f10 : Addr} {od10 an10 : Option Addr} {sl10 : Array (Option Value)} {oc10 kV10 dc10 pm10 cd10 ct10 : Value}
    {f11 : Addr} {od11 an11 : Option Addr} {sl11 : Array (Option Value)} {oc11 kV11 dc11 pm11 cd11 ct11 : Value}
    {f12 : Addr} {od12 an12 : Option Addr} {sl12 : Array (Option Value)} {oc12 kV12 dc12 pm12 cd12 ct12 : Value}
    {f13 : Addr} {od13 an13 : Option Addr} {sl13 : Array (Option Value)} {oc13 kV13 dc13 pm13 cd13 ct13 : Value}
    {f14 : Addr} {od14 an14 : Option Addr} {sl14 : Array (Option Value)} {oc14 kV14 dc14 pm14 cd14 ct14 : Value}
    {f15 : Addr} {od15 an15 : Option Addr} {sl15 : Array (Option Value)} {oc15 kV15 dc15 pm15 cd15 ct15 : Value}
    {f16 : Addr} {od16 an16 : Option Addr} {sl16 : Array (Option Value)} {oc16 kV16 dc16 pm16 cd16 ct16 : Value}
    {f17 : Addr} {od17 an17 : Option Addr} {sl17 : Array (Option Value)} {oc17 kV17 dc17 pm17 cd17 ct17 : Value}
    {f18 : Addr} {od18 an18 : Option Addr} {sl18 : Array (Option Value)} {oc18 kV18 dc18 pm18 cd18 ct18 : Value}
    {f19 : Addr} {od19 an19 : Option Addr} {sl19 : Array (Option Value)} {oc19 kV19 dc19 pm19 cd19 ct19 : Value}
    {f20 : Addr} {od20 an20 : Option Addr} {sl20 : Array (Option Value)} {oc20 kV20 dc20 pm20 cd20 ct20 : Value}
    {f21 : Addr} {od21 an21 : Option Addr} {sl21 : Array (Option Value)} {oc21 kV21 dc21 pm21 cd21 ct21 : Value}
    {f22 : Addr} {od22 an22 : Option Addr} {sl22 : Array (Option Value)} {oc22 kV22 dc22 pm22 cd22 ct22 : Value}
    {f23 : Addr} {od23 an23 : Option Addr} {sl23 : Array (Option Value)} {oc23 kV23 dc23 pm23 cd23 ct23 : Value}
    {CF IC IP IU : Addr}
    {tk0 : Nat}
    {ta0 : Addr} {td0 : Option Addr} {ti0 : Array Value} {tn0 : Nat} {ts0 : Array (Option Value)}
    (a1 : PySem.W.nsIn K mainGlobals "is_integer" = some (some (.ref f1))) (l1 : K.lookup f1 = some ⟨oc1, od1, .func (PySem.W.fnOf "is_integer" "is_integer" (defArgs s_is_integer) (defBody s_is_integer) (defScope s_is_integer) .none kV1 dc1 pm1 an1 cd1 ct1), sl1⟩) (c1 : PySem.W.codeIn K cd1 "is_integer" = true) (k1 : PySem.W.keepIn K (.ref f1) = true)
    (a2 : PySem.W.nsIn K mainGlobals "is_index" = some (some (.ref f2))) (l2 : K.lookup f2 = some ⟨oc2, od2, .func (PySem.W.fnOf "is_index" "is_index" (defArgs s_is_index) (defBody s_is_index) (defScope s_is_index) .none kV2 dc2 pm2 an2 cd2 ct2), sl2⟩) (c2 : PySem.W.codeIn K cd2 "is_index" = true) (k2 : PySem.W.keepIn K (.ref f2) = true)
    (a3 : PySem.W.nsIn K mainGlobals "is_ascending" = some (some (.ref f3))) (l3 : K.lookup f3 = some ⟨oc3, od3, .func (PySem.W.fnOf "is_ascending" "is_ascending" (defArgs s_is_ascending) (defBody s_is_ascending) (defScope s_is_ascending) .none kV3 dc3 pm3 an3 cd3 ct3), sl3⟩) (c3 : PySem.W.codeIn K cd3 "is_ascending" = true) (k3 : PySem.W.keepIn K (.ref f3) = true)
    (a4 : PySem.W.nsIn K mainGlobals "are_worths" = some (some (.ref f4))) (l4 : K.lookup f4 = some ⟨oc4, od4, .func (PySem.W.fnOf "are_worths" "are_worths" (defArgs s_are_worths) (defBody s_are_worths) (defScope s_are_worths) .none kV4 dc4 pm4 an4 cd4 ct4), sl4⟩) (c4 : PySem.W.codeIn K cd4 "are_worths" = true) (k4 : PySem.W.keepIn K (.ref f4) = true)
    (a5 : PySem.W.nsIn K mainGlobals "is_content" = some (some (.ref f5))) (l5 : K.lookup f5 = some ⟨oc5, od5, .func (PySem.W.fnOf "is_content" "is_content" (defArgs s_is_content) (defBody s_is_content) (defScope s_is_content) .none kV5 dc5 pm5 an5 cd5 ct5), sl5⟩) (c5 : PySem.W.codeIn K cd5 "is_content" = true) (k5 : PySem.W.keepIn K (.ref f5) = true)
    (a6 : PySem.W.nsIn K mainGlobals "are_let" = some (some (.ref f6))) (l6 : K.lookup f6 = some ⟨oc6, od6, .func (PySem.W.fnOf "are_let" "are_let" (defArgs s_are_let) (defBody s_are_let) (defScope s_are_let) .none kV6 dc6 pm6 an6 cd6 ct6), sl6⟩) (c6 : PySem.W.codeIn K cd6 "are_let" = true) (k6 : PySem.W.keepIn K (.ref f6) = true)
    (a7 : PySem.W.nsIn K mainGlobals "is_pattern" = some (some (.ref f7))) (l7 : K.lookup f7 = some ⟨oc7, od7, .func (PySem.W.fnOf "is_pattern" "is_pattern" (defArgs s_is_pattern) (defBody s_is_pattern) (defScope s_is_pattern) .none kV7 dc7 pm7 an7 cd7 ct7), sl7⟩) (c7 : PySem.W.codeIn K cd7 "is_pattern" = true) (k7 : PySem.W.keepIn K (.ref f7) = true)
    (a8 : PySem.W.nsIn K mainGlobals "agrees" = some (some (.ref f8))) (l8 : K.lookup f8 = some ⟨oc8, od8, .func (PySem.W.fnOf "agrees" "agrees" (defArgs s_agrees) (defBody s_agrees) (defScope s_agrees) .none kV8 dc8 pm8 an8 cd8 ct8), sl8⟩) (c8 : PySem.W.codeIn K cd8 "agrees" = true) (k8 : PySem.W.keepIn K (.ref f8) = true)
    (a9 : PySem.W.nsIn K mainGlobals "_in_both" = some (some (.ref f9))) (l9 : K.lookup f9 = some ⟨oc9, od9, .func (PySem.W.fnOf "_in_both" "_in_both" (defArgs s_in_both) (defBody s_in_both) (defScope s_in_both) .none kV9 dc9 pm9 an9 cd9 ct9), sl9⟩) (c9 : PySem.W.codeIn K cd9 "_in_both" = true) (k9 : PySem.W.keepIn K (.ref f9) = true)
    (a10 : PySem.W.nsIn K mainGlobals "matches" = some (some (.ref f10))) (l10 : K.lookup f10 = some ⟨oc10, od10, .func (PySem.W.fnOf "matches" "matches" (defArgs s_matches) (defBody s_matches) (defScope s_matches) .none kV10 dc10 pm10 an10 cd10 ct10), sl10⟩) (c10 : PySem.W.codeIn K cd10 "matches" = true) (k10 : PySem.W.keepIn K (.ref f10) = true)
    (a11 : PySem.W.nsIn K mainGlobals "both" = some (some (.ref f11))) (l11 : K.lookup f11 = some ⟨oc11, od11, .func (PySem.W.fnOf "both" "both" (defArgs s_both) (defBody s_both) (defScope s_both) .none kV11 dc11 pm11 an11 cd11 ct11), sl11⟩) (c11 : PySem.W.codeIn K cd11 "both" = true) (k11 : PySem.W.keepIn K (.ref f11) = true)
    (a12 : PySem.W.nsIn K mainGlobals "_law_pen" = some (some (.ref f12))) (l12 : K.lookup f12 = some ⟨oc12, od12, .func (PySem.W.fnOf "_law_pen" "_law_pen" (defArgs s_l_pen) (defBody s_l_pen) (defScope s_l_pen) .none kV12 dc12 pm12 an12 cd12 ct12), sl12⟩) (c12 : PySem.W.codeIn K cd12 "_law_pen" = true) (k12 : PySem.W.keepIn K (.ref f12) = true)
    (a13 : PySem.W.nsIn K mainGlobals "_law_next" = some (some (.ref f13))) (l13 : K.lookup f13 = some ⟨oc13, od13, .func (PySem.W.fnOf "_law_next" "_law_next" (defArgs s_l_next) (defBody s_l_next) (defScope s_l_next) .none kV13 dc13 pm13 an13 cd13 ct13), sl13⟩) (c13 : PySem.W.codeIn K cd13 "_law_next" = true) (k13 : PySem.W.keepIn K (.ref f13) = true)
    (a14 : PySem.W.nsIn K mainGlobals "_law_draw" = some (some (.ref f14))) (l14 : K.lookup f14 = some ⟨oc14, od14, .func (PySem.W.fnOf "_law_draw" "_law_draw" (defArgs s_l_draw) (defBody s_l_draw) (defScope s_l_draw) .none kV14 dc14 pm14 an14 cd14 ct14), sl14⟩) (c14 : PySem.W.codeIn K cd14 "_law_draw" = true) (k14 : PySem.W.keepIn K (.ref f14) = true)
    (a15 : PySem.W.nsIn K mainGlobals "_law_some" = some (some (.ref f15))) (l15 : K.lookup f15 = some ⟨oc15, od15, .func (PySem.W.fnOf "_law_some" "_law_some" (defArgs s_l_some) (defBody s_l_some) (defScope s_l_some) .none kV15 dc15 pm15 an15 cd15 ct15), sl15⟩) (c15 : PySem.W.codeIn K cd15 "_law_some" = true) (k15 : PySem.W.keepIn K (.ref f15) = true)
    (a16 : PySem.W.nsIn K mainGlobals "_law_is_met" = some (some (.ref f16))) (l16 : K.lookup f16 = some ⟨oc16, od16, .func (PySem.W.fnOf "_law_is_met" "_law_is_met" (defArgs s_l_is_met) (defBody s_l_is_met) (defScope s_l_is_met) .none kV16 dc16 pm16 an16 cd16 ct16), sl16⟩) (c16 : PySem.W.codeIn K cd16 "_law_is_met" = true) (k16 : PySem.W.keepIn K (.ref f16) = true)
    (a17 : PySem.W.nsIn K mainGlobals "_law_odd" = some (some (.ref f17))) (l17 : K.lookup f17 = some ⟨oc17, od17, .func (PySem.W.fnOf "_law_odd" "_law_odd" (defArgs s_l_odd) (defBody s_l_odd) (defScope s_l_odd) .none kV17 dc17 pm17 an17 cd17 ct17), sl17⟩) (c17 : PySem.W.codeIn K cd17 "_law_odd" = true) (k17 : PySem.W.keepIn K (.ref f17) = true)
    (a18 : PySem.W.nsIn K mainGlobals "_law_choices" = some (some (.ref f18))) (l18 : K.lookup f18 = some ⟨oc18, od18, .func (PySem.W.fnOf "_law_choices" "_law_choices" (defArgs s_l_choices) (defBody s_l_choices) (defScope s_l_choices) .none kV18 dc18 pm18 an18 cd18 ct18), sl18⟩) (c18 : PySem.W.codeIn K cd18 "_law_choices" = true) (k18 : PySem.W.keepIn K (.ref f18) = true)
    (a19 : PySem.W.nsIn K mainGlobals "_law_error" = some (some (.ref f19))) (l19 : K.lookup f19 = some ⟨oc19, od19, .func (PySem.W.fnOf "_law_error" "_law_error" (defArgs s_l_error) (defBody s_l_error) (defScope s_l_error) .none kV19 dc19 pm19 an19 cd19 ct19), sl19⟩) (c19 : PySem.W.codeIn K cd19 "_law_error" = true) (k19 : PySem.W.keepIn K (.ref f19) = true)
    (a20 : PySem.W.nsIn K mainGlobals "_law_both" = some (some (.ref f20))) (l20 : K.lookup f20 = some ⟨oc20, od20, .func (PySem.W.fnOf "_law_both" "_law_both" (defArgs s_l_both) (defBody s_l_both) (defScope s_l_both) .none kV20 dc20 pm20 an20 cd20 ct20), sl20⟩) (c20 : PySem.W.codeIn K cd20 "_law_both" = true) (k20 : PySem.W.keepIn K (.ref f20) = true)
    (a21 : PySem.W.nsIn K mainGlobals "_law_refused" = some (some (.ref f21))) (l21 : K.lookup f21 = some ⟨oc21, od21, .func (PySem.W.fnOf "_law_refused" "_law_refused" (defArgs s_l_refused) (defBody s_l_refused) (defScope s_l_refused) .none kV21 dc21 pm21 an21 cd21 ct21), sl21⟩) (c21 : PySem.W.codeIn K cd21 "_law_refused" = true) (k21 : PySem.W.keepIn K (.ref f21) = true)
    (a22 : PySem.W.nsIn K mainGlobals "_law_changed_right" = some (some (.ref f22))) (l22 : K.lookup f22 = some ⟨oc22, od22, .func (PySem.W.fnOf "_law_changed_right" "_law_changed_right" (defArgs s_l_changed_right) (defBody s_l_changed_right) (defScope s_l_changed_right) .none kV22 dc22 pm22 an22 cd22 ct22), sl22⟩) (c22 : PySem.W.codeIn K cd22 "_law_changed_right" = true) (k22 : PySem.W.keepIn K (.ref f22) = true)
    (a23 : PySem.W.nsIn K mainGlobals "law" = some (some (.ref f23))) (l23 : K.lookup f23 = some ⟨oc23, od23, .func (PySem.W.fnOf "law" "law" (defArgs s_law) (defBody s_law) (defScope s_law) .none kV23 dc23 pm23 an23 cd23 ct23), sl23⟩) (c23 : PySem.W.codeIn K cd23 "law" = true) (k23 : PySem.W.keepIn K (.ref f23) = true)
    (gCF : PySem.W.nsIn K mainGlobals "FallError" = some (some (.ref CF)))
    (gIC : PySem.W.nsIn K mainGlobals "InvalidContent" = some (some (.ref IC)))
    (gIP : PySem.W.nsIn K mainGlobals "InvalidPattern" = some (some (.ref IP)))
    (gIU : PySem.W.nsIn K mainGlobals "UnknownCell" = some (some (.ref IU)))
    (hn : PySem.W.specialIn K (.builtin "object.__class__") "__get__" = some (some (.builtin "getset_descriptor.__get__")))
    (htk : PySem.W.takesIn K (.builtin "object.__class__") = some true)
    (yb : PySem.W.subIn K (.ref CF) (.type "BaseException") = some true)
    (yd : PySem.W.hasDictIn K CF = true)
    (yt : PySem.W.typeIn K (.ref CF) = some (.type "type"))
    (c1IC : PySem.W.isClsIn K IC = true)
    (c2IC : PySem.W.typeIn K (.ref IC) = some (.type "type"))
    (c1IP : PySem.W.isClsIn K IP = true)
    (c2IP : PySem.W.typeIn K (.ref IP) = some (.type "type"))
    (c1IU : PySem.W.isClsIn K IU = true)
    (c2IU : PySem.W.typeIn K (.ref IU) = some (.type "type"))
    (xxIC : PySem.W.excIn K IC [.type "ValueError", .type "Exception", .type "BaseException", .type "object"] "ValueError.__new__" = true)
    (xkIC : PySem.W.keepIn K (.ref IC) = true)
    (xbIC : PySem.W.subIn K (.ref IC) (.type "BaseException") = some true)
    (xtIC : PySem.W.typeIn K (.ref IC) = some (.type "type"))
    (xdIC : PySem.W.hasDictIn K IC = true)
    (xcIC : PySem.W.findIn K (.ref IC) "__class__" = some (some (.builtin "object.__class__")))
    (xmIC : PySem.W.mroIn K IC (.type "object") = some true)
    (xgaIC : PySem.W.findIn K (.ref IC) "__getattribute__" = some (some (.builtin "BaseException.__getattribute__")))
    (xgtIC : PySem.W.findIn K (.ref IC) "__getattr__" = some none)
    (yeIC : PySem.W.subIn K (.ref IC) (.ref CF) = some true)
    (noICIP : PySem.W.subIn K (.ref IC) (.ref IP) = some false)
    (neICIP : (Value.ref IC == Value.ref IP) = false)
    (noICIU : PySem.W.subIn K (.ref IC) (.ref IU) = some false)
    (neICIU : (Value.ref IC == Value.ref IU) = false)
    (xxIP : PySem.W.excIn K IP [.type "ValueError", .type "Exception", .type "BaseException", .type "object"] "ValueError.__new__" = true)
    (xkIP : PySem.W.keepIn K (.ref IP) = true)
    (xbIP : PySem.W.subIn K (.ref IP) (.type "BaseException") = some true)
    (xtIP : PySem.W.typeIn K (.ref IP) = some (.type "type"))
    (xdIP : PySem.W.hasDictIn K IP = true)
    (xcIP : PySem.W.findIn K (.ref IP) "__class__" = some (some (.builtin "object.__class__")))
    (xmIP : PySem.W.mroIn K IP (.type "object") = some true)
    (xgaIP : PySem.W.findIn K (.ref IP) "__getattribute__" = some (some (.builtin "BaseException.__getattribute__")))
    (xgtIP : PySem.W.findIn K (.ref IP) "__getattr__" = some none)
    (yeIP : PySem.W.subIn K (.ref IP) (.ref CF) = some true)
    (noIPIC : PySem.W.subIn K (.ref IP) (.ref IC) = some false)
    (neIPIC : (Value.ref IP == Value.ref IC) = false)
    (noIPIU : PySem.W.subIn K (.ref IP) (.ref IU) = some false)
    (neIPIU : (Value.ref IP == Value.ref IU) = false)
    (zr : PySem.W.nsIn K mainGlobals "repr" = some none)
    (z0 : PySem.W.nsIn K mainGlobals "len" = some none)
    (z1 : PySem.W.nsIn K mainGlobals "int" = some none)
    (z2 : PySem.W.nsIn K mainGlobals "list" = some none)
    (z3 : PySem.W.nsIn K mainGlobals "tuple" = some none)
    (z4 : PySem.W.nsIn K mainGlobals "range" = some none)
    (z5 : PySem.W.nsIn K mainGlobals "min" = some none)
    (z6 : PySem.W.nsIn K mainGlobals "all" = some none)
    (z7 : PySem.W.nsIn K mainGlobals "enumerate" = some none)
    (z8 : PySem.W.nsIn K mainGlobals "zip" = some none)
    (z9 : PySem.W.nsIn K mainGlobals "isinstance" = some none)
    (z10 : PySem.W.nsIn K mainGlobals "bool" = some none)
    (zo : PySem.W.nsIn K mainGlobals "sorted" = some none)
    (zs : PySem.W.nsIn K mainGlobals "set" = some none)
    (dict : PySem.W.nsIn K mainGlobals "dict" = some none)
    (m0 : PySem.W.nsIn K mainGlobals "MOST_CELLS" = some (some (.int 24 tk0)))
    (u0 : PySem.W.nsIn K mainGlobals "ALL_WORTHS" = some (some (.ref ta0))) (w0 : K.lookup ta0 = some ⟨.type "tuple", td0, .seq ti0 tn0, ts0⟩) (x0 : ti0.size ≤ sizeLine) (y0 : Vals (ivs [0, 1, 2, 3, 4, 5, 6, 7]) ti0.toList) :
    ∃ fd : FuncData, (∀ (s : Shared) (v : Value), BindsTo s fd ⟨[v], []⟩ [("_law_script", v)]) ∧ ∀ base : Heap, K.In base → base.Ns mainGlobals mg → FnG l.prog w K mg base 9 fa fd ["_law_script"] (sp_law K) := by
  have e := hfa.symm.trans (PySem.W.mg_of X G a23)
  cases e
  have T : Txt mg := ⟨PySem.W.mg_none_of X G z0, PySem.W.mg_none_of X G z1, PySem.W.mg_none_of X G z2, PySem.W.mg_none_of X G z3, PySem.W.mg_none_of X G z4, PySem.W.mg_none_of X G z5, PySem.W.mg_none_of X G z6, PySem.W.mg_none_of X G z7, PySem.W.mg_none_of X G z8, PySem.W.mg_none_of X G z9, PySem.W.mg_none_of X G z10⟩
  have CK : Cst K mg := ⟨⟨_, PySem.W.mg_of X G m0⟩, ⟨_, PySem.W.mg_of X G u0, fun H => .inr ⟨_, ti0, tn0, w0, rfl, rfl, x0, y0⟩⟩⟩
  have X_IC : ExcC K mg "InvalidContent" IC := ⟨PySem.W.mg_of X G gIC, xxIC, xkIC, xbIC, xtIC⟩
  have I_IC : L2.ExcC K IC := ⟨xgaIC, xgtIC, xbIC, xdIC, xcIC, hn, htk, xmIC⟩
  have m_IC : PySem.W.exmOne K (.ref IC) (.ref CF) = some true := PySem.W.exm_ref yb yd yt yeIC
  have q_IC_IP : PySem.W.kitOne K (.ref IC) (.ref IP) = some false := is_no c1IP c2IP noICIP neICIP
  have q_IC_IU : PySem.W.kitOne K (.ref IC) (.ref IU) = some false := is_no c1IU c2IU noICIU neICIU
  have X_IP : ExcC K mg "InvalidPattern" IP := ⟨PySem.W.mg_of X G gIP, xxIP, xkIP, xbIP, xtIP⟩
  have I_IP : L2.ExcC K IP := ⟨xgaIP, xgtIP, xbIP, xdIP, xcIP, hn, htk, xmIP⟩
  have m_IP : PySem.W.exmOne K (.ref IP) (.ref CF) = some true := PySem.W.exm_ref yb yd yt yeIP
  have q_IP_IC : PySem.W.kitOne K (.ref IP) (.ref IC) = some false := is_no c1IC c2IC noIPIC neIPIC
  have q_IP_IU : PySem.W.kitOne K (.ref IP) (.ref IU) = some false := is_no c1IU c2IU noIPIU neIPIU
  refine ⟨PySem.W.fnOf "law" "law" (defArgs s_law) (defBody s_law) (defScope s_law) .none kV23 dc23 pm23 an23 cd23 ct23, fun s v => .of_eq rfl, fun base _ _ => ?_⟩
  have t_repr := PySem.W.mg_none_of X G zr
  have t_zo := PySem.W.mg_none_of X G zo
  have t_zs := PySem.W.mg_none_of X G zs
  have t_dict := PySem.W.mg_none_of X G dict
  have F1 := fun_mk (st := s_is_integer) l1 c1 k1
  have c_is_integer : Cal l.prog w K mg base 1 "is_integer" ["thing"] (sp_is_integer K) := ⟨f1, _, ok_is_integer F1 T, PySem.W.mg_of X G a1, k1, F1.binds (ps := ["thing"]) fun _ _ _ _ _ _ us hl => match us, hl with | [_], _ => rfl⟩
  have F2 := fun_mk (st := s_is_index) l2 c2 k2
  have c_is_index : Cal l.prog w K mg base 2 "is_index" ["thing", "many"] (sp_is_index K) := ⟨f2, _, ok_is_index F2 T c_is_integer, PySem.W.mg_of X G a2, k2, F2.binds (ps := ["thing", "many"]) fun _ _ _ _ _ _ us hl => match us, hl with | [_, _], _ => rfl⟩
  have F3 := fun_mk (st := s_is_ascending) l3 c3 k3
  have c_is_ascending : Cal l.prog w K mg base 1 "is_ascending" ["things"] sp_ascT := ⟨f3, _, ok_ascT F3 T, PySem.W.mg_of X G a3, k3, F3.binds (ps := ["things"]) fun _ _ _ _ _ _ us hl => match us, hl with | [_], _ => rfl⟩
  have F4 := fun_mk (st := s_are_worths) l4 c4 k4
  have c_are_worths : Cal l.prog w K mg base 3 "are_worths" ["thing"] (sp_are_worths K) := ⟨f4, _, ok_are_worths F4 T CK c_is_index, PySem.W.mg_of X G a4, k4, F4.binds (ps := ["thing"]) fun _ _ _ _ _ _ us hl => match us, hl with | [_], _ => rfl⟩
  have F5 := fun_mk (st := s_is_content) l5 c5 k5
  have c_is_content : Cal l.prog w K mg base 4 "is_content" ["thing"] (sp_is_content K) := ⟨f5, _, ok_is_content F5 T CK c_are_worths, PySem.W.mg_of X G a5, k5, F5.binds (ps := ["thing"]) fun _ _ _ _ _ _ us hl => match us, hl with | [_], _ => rfl⟩
  have F6 := fun_mk (st := s_are_let) l6 c6 k6
  have c_are_let : Cal l.prog w K mg base 4 "are_let" ["thing"] (sp_let K) := ⟨f6, _, ok_let F6 T c_are_worths c_is_ascending, PySem.W.mg_of X G a6, k6, F6.binds (ps := ["thing"]) fun _ _ _ _ _ _ us hl => match us, hl with | [_], _ => rfl⟩
  have F7 := fun_mk (st := s_is_pattern) l7 c7 k7
  have c_is_pattern : Cal l.prog w K mg base 5 "is_pattern" ["cells", "thing"] (sp_is_pattern K) := ⟨f7, _, ok_is_pattern F7 T t_dict c_is_index c_are_let, PySem.W.mg_of X G a7, k7, F7.binds (ps := ["cells", "thing"]) fun _ _ _ _ _ _ us hl => match us, hl with | [_, _], _ => rfl⟩
  have F8 := fun_mk (st := s_agrees) l8 c8 k8
  have c_agrees : Cal l.prog w K mg base 1 "agrees" ["pattern", "content"] sp_agrees := ⟨f8, _, ok_agrees F8 T, PySem.W.mg_of X G a8, k8, F8.binds (ps := ["pattern", "content"]) fun _ _ _ _ _ _ us hl => match us, hl with | [_, _], _ => rfl⟩
  have F9 := fun_mk (st := s_in_both) l9 c9 k9
  have c_in_both : Cal l.prog w K mg base 1 "_in_both" ["worths", "others"] (sp_in_both K) := ⟨f9, _, ok_in_both F9 T, PySem.W.mg_of X G a9, k9, F9.binds (ps := ["worths", "others"]) fun _ _ _ _ _ _ us hl => match us, hl with | [_, _], _ => rfl⟩
  have F10 := fun_mk (st := s_matches) l10 c10 k10
  have c_matches : CalX l.prog w K mg base 6 "matches" ["pattern", "content"] (sp_matches K IC IP) := ⟨f10, _, ok_matches F10 T X_IC X_IP c_is_content c_is_pattern c_agrees, PySem.W.mg_of X G a10, k10, F10.binds (ps := ["pattern", "content"]) fun _ _ _ _ _ _ us hl => match us, hl with | [_, _], _ => rfl⟩
  have F11 := fun_mk (st := s_both) l11 c11 k11
  have c_both : CalX l.prog w K mg base 6 "both" ["cells", "pattern", "other"] (sp_both K IP) := ⟨f11, _, ok_both F11 T X_IP CK c_is_pattern c_in_both, PySem.W.mg_of X G a11, k11, F11.binds (ps := ["cells", "pattern", "other"]) fun _ _ _ _ _ _ us hl => match us, hl with | [_, _, _], _ => rfl⟩
  have XE : ErrC K mg CF IC IP IU := ⟨PySem.W.mg_of X G gCF, PySem.W.mg_of X G gIC, PySem.W.mg_of X G gIP, PySem.W.mg_of X G gIU, m_IC, m_IP, I_IC, I_IP, q_IC_IU, q_IP_IU, ⟨is_own, q_IC_IP⟩, ⟨q_IP_IC, is_own⟩⟩
  have F12 := fun_mk (st := s_l_pen) l12 c12 k12
  have c_l_pen : Cal l.prog w K mg base 1 "_law_pen" ["_law_script"] (sp_pen K) := ⟨f12, _, ok_pen F12 T, PySem.W.mg_of X G a12, k12, F12.binds (ps := ["_law_script"]) fun _ _ _ _ _ _ us hl => match us, hl with | [_], _ => rfl⟩
  have F13 := fun_mk (st := s_l_next) l13 c13 k13
  have c_l_next : Cal l.prog w K mg base 1 "_law_next" ["_law_pen_here"] sp_next := ⟨f13, _, ok_next F13 T, PySem.W.mg_of X G a13, k13, F13.binds (ps := ["_law_pen_here"]) fun _ _ _ _ _ _ us hl => match us, hl with | [_], _ => rfl⟩
  have F14 := fun_mk (st := s_l_draw) l14 c14 k14
  have c_l_draw : Cal l.prog w K mg base 2 "_law_draw" ["_law_pen_here", "_law_under"] sp_draw := ⟨f14, _, ok_draw F14 T c_l_next, PySem.W.mg_of X G a14, k14, F14.binds (ps := ["_law_pen_here", "_law_under"]) fun _ _ _ _ _ _ us hl => match us, hl with | [_, _], _ => rfl⟩
  have F15 := fun_mk (st := s_l_some) l15 c15 k15
  have c_l_some : Cal l.prog w K mg base 3 "_law_some" ["_law_pen_here", "_law_pool", "_law_most"] sp_someV := ⟨f15, _, ok_someV F15 T c_l_draw, PySem.W.mg_of X G a15, k15, F15.binds (ps := ["_law_pen_here", "_law_pool", "_law_most"]) fun _ _ _ _ _ _ us hl => match us, hl with | [_, _, _], _ => rfl⟩
  have F16 := fun_mk (st := s_l_is_met) l16 c16 k16
  have c_l_is_met : Cal l.prog w K mg base 1 "_law_is_met" ["_law_pattern_here", "_law_content_here"] sp_agrees := ⟨f16, _, ok_is_met F16 T, PySem.W.mg_of X G a16, k16, F16.binds (ps := ["_law_pattern_here", "_law_content_here"]) fun _ _ _ _ _ _ us hl => match us, hl with | [_, _], _ => rfl⟩
  have F17 := fun_mk (st := s_l_odd) l17 c17 k17
  have c_l_odd : Cal l.prog w K mg base 1 "_law_odd" [] (sp_odd K) := ⟨f17, _, ok_odd F17 T, PySem.W.mg_of X G a17, k17, F17.binds (ps := []) fun _ _ _ _ _ _ us hl => match us, hl with | [], _ => rfl⟩
  have F18 := fun_mk (st := s_l_choices) l18 c18 k18
  have c_l_choices : Cal l.prog w K mg base 4 "_law_choices" ["_law_pen_here", "_law_many"] sp_choices := ⟨f18, _, ok_choices F18 T t_zo c_l_draw c_l_some, PySem.W.mg_of X G a18, k18, F18.binds (ps := ["_law_pen_here", "_law_many"]) fun _ _ _ _ _ _ us hl => match us, hl with | [_, _], _ => rfl⟩
  have F19 := fun_mk (st := s_l_error) l19 c19 k19
  have c_l_error : Cal l.prog w K mg base 7 "_law_error" ["_law_some_here", "_law_road"] (sp_error K) := ⟨f19, _, ok_error F19 T XE c_matches c_both, PySem.W.mg_of X G a19, k19, F19.binds (ps := ["_law_some_here", "_law_road"]) fun _ _ _ _ _ _ us hl => match us, hl with | [_, _], _ => rfl⟩
  have F20 := fun_mk (st := s_l_both) l20 c20 k20
  have c_l_both : Cal l.prog w K mg base 1 "_law_both" ["_law_one", "_law_other"] sp_lboth := ⟨f20, _, ok_lboth F20 T t_zo, PySem.W.mg_of X G a20, k20, F20.binds (ps := ["_law_one", "_law_other"]) fun _ _ _ _ _ _ us hl => match us, hl with | [_, _], _ => rfl⟩
  have F21 := fun_mk (st := s_l_refused) l21 c21 k21
  have c_l_refused : CalG l.prog w K mg base 8 "_law_refused" ["_law_pen_here", "_law_row", "_law_pattern_here"] sp_refused := ⟨f21, _, ok_refused F21 T t_repr c_l_draw c_l_some c_l_odd c_l_error, PySem.W.mg_of X G a21, k21, F21.binds (ps := ["_law_pen_here", "_law_row", "_law_pattern_here"]) fun _ _ _ _ _ _ us hl => match us, hl with | [_, _, _], _ => rfl⟩
  have F22 := fun_mk (st := s_l_changed_right) l22 c22 k22
  have c_l_changed_right : Cal l.prog w K mg base 8 "_law_changed_right" ["_law_pen_here", "_law_row", "_law_one", "_law_two"] sp_changed := ⟨f22, _, ok_changed F22 T c_l_draw c_matches c_both c_l_is_met c_l_both c_l_error, PySem.W.mg_of X G a22, k22, F22.binds (ps := ["_law_pen_here", "_law_row", "_law_one", "_law_two"]) fun _ _ _ _ _ _ us hl => match us, hl with | [_, _, _, _], _ => rfl⟩
  exact ok_law (fun_mk (st := s_law) l23 c23 k23) T t_repr t_zo t_zs t_dict c_l_pen c_l_draw c_l_choices c_matches c_both c_l_is_met c_l_both c_l_changed_right c_l_refused
theorem walk {l : PySem.W.OpenLaw} {q : Program} {loose : List Str} {XP : (Str → Option Value) → Heap → Prop} {YP : World → Heap → Prop} {d : DefRec} {K : Params → PySem.W.Frag} (hn : l.most = some 63) (hdf : d.params.defaults = [])
    (hY : ∀ (w : World) (h : Heap), YP w h → (K w.params).In h)
    (F : ∀ (w : World) (mg : Str → Option Value) (fa : Addr) (h : Heap), (K w.params).In h → h.Ns mainGlobals mg → mg d.name = some (.ref fa) →
      ∃ fd : FuncData, (∀ (s : Shared) (u : Value), BindsTo s fd ⟨[u], []⟩ [("_law_script", u)]) ∧ ∀ base : Heap, (K w.params).In base → base.Ns mainGlobals mg → FnG l.prog w (K w.params) mg base 9 fa fd ["_law_script"] (sp_law (K w.params))) :
    PySem.W.WalkO q loose XP YP l.row.toRowW d [] (fun f vs => PySem.call f vs) :=
  walkG (n := 63) (k := 9) (x := "_law_script") (sp := fun w => sp_law (K w.params)) hn (by decide) hdf ⟨rfl, by decide, by decide⟩ hY F fun _ _ a ns hl _ hS => ⟨a, ns, rfl, hS, fun _ => rfl⟩
end Af

open PySem PySem.W PyProof.Rows in
set_option maxRecDepth 100000 in
set_option maxHeartbeats 0 in
theorem PySem.Challenge.cw_afterfall_k03_matches_and_both_holds : PySem.Challenge.rw_afterfall_k03_matches_and_both.Holds := by
  w_on; o_law; k_head; (case hw => w_witness2)
  k_fill
  refine Af.walk (l := PySem.Challenge.rw_afterfall_k03_matches_and_both) rfl rfl (fun w h Y => PySem.W.kIn_of Y) ?F
  case F =>
    intro w mg fa h KX G hmg
    refine' Af.all_mk KX G hmg ?a1 ?l1 ?c1 ?k1 ?a2 ?l2 ?c2 ?k2 ?a3 ?l3 ?c3 ?k3 ?a4 ?l4 ?c4 ?k4 ?a5 ?l5 ?c5 ?k5 ?a6 ?l6 ?c6 ?k6 ?a7 ?l7 ?c7 ?k7 ?a8 ?l8 ?c8 ?k8 ?a9 ?l9 ?c9 ?k9 ?a10 ?l10 ?c10 ?k10 ?a11 ?l11 ?c11 ?k11 ?a12 ?l12 ?c12 ?k12 ?a13 ?l13 ?c13 ?k13 ?a14 ?l14 ?c14 ?k14 ?a15 ?l15 ?c15 ?k15 ?a16 ?l16 ?c16 ?k16 ?a17 ?l17 ?c17 ?k17 ?a18 ?l18 ?c18 ?k18 ?a19 ?l19 ?c19 ?k19 ?a20 ?l20 ?c20 ?k20 ?a21 ?l21 ?c21 ?k21 ?a22 ?l22 ?c22 ?k22 ?a23 ?l23 ?c23 ?k23 ?gCF ?gIC ?gIP ?gIU ?hn ?htk ?yb ?yd ?yt ?c1IC ?c2IC ?c1IP ?c2IP ?c1IU ?c2IU ?xxIC ?xkIC ?xbIC ?xtIC ?xdIC ?xcIC ?xmIC ?xgaIC ?xgtIC ?yeIC ?noICIP ?neICIP ?noICIU ?neICIU ?xxIP ?xkIP ?xbIP ?xtIP ?xdIP ?xcIP ?xmIP ?xgaIP ?xgtIP ?yeIP ?noIPIC ?neIPIC ?noIPIU ?neIPIU ?zr ?z0 ?z1 ?z2 ?z3 ?z4 ?z5 ?z6 ?z7 ?z8 ?z9 ?z10 ?zo ?zs ?dict ?m0 ?u0 ?w0 ?x0 ?y0
    (case a1 => k_is)
    (case l1 => k_is)
    (case c1 => k_is)
    (case k1 => k_is)
    (case a2 => k_is)
    (case l2 => k_is)
    (case c2 => k_is)
    (case k2 => k_is)
    (case a3 => k_is)
    (case l3 => k_is)
    (case c3 => k_is)
    (case k3 => k_is)
    (case a4 => k_is)
    (case l4 => k_is)
    (case c4 => k_is)
    (case k4 => k_is)
    (case a5 => k_is)
    (case l5 => k_is)
    (case c5 => k_is)
    (case k5 => k_is)
    (case a6 => k_is)
    (case l6 => k_is)
    (case c6 => k_is)
    (case k6 => k_is)
    (case a7 => k_is)
    (case l7 => k_is)
    (case c7 => k_is)
    (case k7 => k_is)
    (case a8 => k_is)
    (case l8 => k_is)
    (case c8 => k_is)
    (case k8 => k_is)
    (case a9 => k_is)
    (case l9 => k_is)
    (case c9 => k_is)
    (case k9 => k_is)
    (case a10 => k_is)
    (case l10 => k_is)
    (case c10 => k_is)
    (case k10 => k_is)
    (case a11 => k_is)
    (case l11 => k_is)
    (case c11 => k_is)
    (case k11 => k_is)
    (case a12 => k_is)
    (case l12 => k_is)
    (case c12 => k_is)
    (case k12 => k_is)
    (case a13 => k_is)
    (case l13 => k_is)
    (case c13 => k_is)
    (case k13 => k_is)
    (case a14 => k_is)
    (case l14 => k_is)
    (case c14 => k_is)
    (case k14 => k_is)
    (case a15 => k_is)
    (case l15 => k_is)
    (case c15 => k_is)
    (case k15 => k_is)
    (case a16 => k_is)
    (case l16 => k_is)
    (case c16 => k_is)
    (case k16 => k_is)
    (case a17 => k_is)
    (case l17 => k_is)
    (case c17 => k_is)
    (case k17 => k_is)
    (case a18 => k_is)
    (case l18 => k_is)
    (case c18 => k_is)
    (case k18 => k_is)
    (case a19 => k_is)
    (case l19 => k_is)
    (case c19 => k_is)
    (case k19 => k_is)
    (case a20 => k_is)
    (case l20 => k_is)
    (case c20 => k_is)
    (case k20 => k_is)
    (case a21 => k_is)
    (case l21 => k_is)
    (case c21 => k_is)
    (case k21 => k_is)
    (case a22 => k_is)
    (case l22 => k_is)
    (case c22 => k_is)
    (case k22 => k_is)
    (case a23 => k_is)
    (case l23 => k_is)
    (case c23 => k_is)
    (case k23 => k_is)
    (case gCF => k_is)
    (case gIC => k_is)
    (case gIP => k_is)
    (case gIU => k_is)
    (case hn => k_is)
    (case htk => k_is)
    (case yb => k_is)
    (case yd => k_is)
    (case yt => k_is)
    (case c1IC => k_is)
    (case c2IC => k_is)
    (case c1IP => k_is)
    (case c2IP => k_is)
    (case c1IU => k_is)
    (case c2IU => k_is)
    (case xxIC => k_exc)
    (case xkIC => k_is)
    (case xbIC => k_is)
    (case xtIC => k_is)
    (case xdIC => k_is)
    (case xcIC => k_is)
    (case xmIC => k_is)
    (case xgaIC => k_is)
    (case xgtIC => k_is)
    (case yeIC => k_is)
    (case noICIP => k_is)
    (case neICIP => decide)
    (case noICIU => k_is)
    (case neICIU => decide)
    (case xxIP => k_exc)
    (case xkIP => k_is)
    (case xbIP => k_is)
    (case xtIP => k_is)
    (case xdIP => k_is)
    (case xcIP => k_is)
    (case xmIP => k_is)
    (case xgaIP => k_is)
    (case xgtIP => k_is)
    (case yeIP => k_is)
    (case noIPIC => k_is)
    (case neIPIC => decide)
    (case noIPIU => k_is)
    (case neIPIU => decide)
    (case zr => k_is)
    (case z0 => k_is)
    (case z1 => k_is)
    (case z2 => k_is)
    (case z3 => k_is)
    (case z4 => k_is)
    (case z5 => k_is)
    (case z6 => k_is)
    (case z7 => k_is)
    (case z8 => k_is)
    (case z9 => k_is)
    (case z10 => k_is)
    (case zo => k_is)
    (case zs => k_is)
    (case dict => k_is)
    (case m0 => k_is)
    (case u0 => k_is)
    (case w0 => k_is)
    (case x0 => decide)
    (case y0 => exact .cons ⟨_, rfl⟩ (.cons ⟨_, rfl⟩ (.cons ⟨_, rfl⟩ (.cons ⟨_, rfl⟩ (.cons ⟨_, rfl⟩ (.cons ⟨_, rfl⟩ (.cons ⟨_, rfl⟩ (.cons ⟨_, rfl⟩ .nil))))))))

