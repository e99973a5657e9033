import PyProof.Rows.All
import Wide.All
import OpenK.AllK
import Wide.FinOn
import HandS.ForMost
import HandS.ForExc
import HandS.TupAny
import HandS.TupMul
import HandS.Style
import HandS.OwnEq
import HandS.IsInst
import HandS.Zip
import KE.DataFind
import PyProof.ReprRoads
import PyProof.ReprLen
import HandS.ExcIs
import HandS.ExcValue
import HandS.Property
import PyProof.Rows.SetFrom
import HandS.Text
import HandS.SetFor
import HandS.Strs
import HandS.Walk
import HandS.SortInts
import HandS.SortRule
import HandS.Iter
import HandS.Conv
import PyProof.Rows.RuleB_and
import HandS.NamedTupGet
import HandS.DictComp
import KE.GoesNew
import HandS.WideBits
import HandS.RevRange
import HandS.Small
import HandS.More
import HandS.Deep
import HandS.Star
import PySem.Challenge.RW_afterfall_k37_errors_of_guards
set_option Elab.async false
set_option linter.all false
set_option maxRecDepth 100000
namespace Af
open PySem L2

/-! heaps -/
theorem same_new {H : Hp} {p : Addr} {o : HO} (h : H p = none) : Same H (upd H p o) := fun b u e => by
  rw [upd_ne (ne_of_none e h)]
  exact e
theorem nofree {H : Hp} {p q : Addr} {o : HO} (h : H p = some o) (h' : H q = none) : q ≠ p := fun e => by
  rw [e, h] at h'
  cases h'

/-- a new object o -/
def New (o : HO) (H : Hp) (Q : VK) : Prop := ∀ (p : Addr) (H' : Hp), H p = none → Same H H' → H' p = some o → Q (.ref p) H'
theorem New.mk {o : HO} {H : Hp} {Q : VK} (h : New o H Q) : ∀ p, H p = none → Q (.ref p) (upd H p o) := fun p hp => h p _ hp (same_new hp) upd_same
/-- a tuple of xs, new or not -/
def NewT (xs : List V) (H : Hp) (Q : VK) : Prop := ∀ (p : Addr) (H' : Hp), Same H H' → H' p = some (.tup xs) → Q (.ref p) H'

theorem pe_imp {X : Cx} {e : Expr} {t t' : TE} (h : PE X e t) (i : ∀ σ H Q, t' σ H Q → t σ H Q) : PE X e t' := ⟨fun pins s σ H Q I q => h.run pins s σ H Q I (i σ H Q q)⟩
theorem op_imp {X : Cx} {f : Value → Value → Sem Value} {r r' : R2} (h : OpR X f r) (i : ∀ x y H Q, r' x y H Q → r x y H Q) : OpR X f r' :=
  fun pins s σ H x y v u Q I rx ry q => h pins s σ H x y v u Q I rx ry (i x y H Q q)
theorem call_imp {X : Cx} {f : Value} {r r' : List V → Hp → VK → Prop} (h : CallR X f r) (i : ∀ xs H Q, r' xs H Q → r xs H Q) : CallR X f r' :=
  fun pins s σ H xs us Q I rs q => h pins s σ H xs us Q I rs (i xs H Q q)

/-! displays -/
def tTup' (t : TA) : TE := fun σ H Q => t σ H fun xs H1 => xs.length ≤ sizeLine ∧ New (.tup xs) H1 Q
def tLst' (t : TA) : TE := fun σ H Q => t σ H fun xs H1 => xs.length ≤ sizeLine ∧ New (.lst xs) H1 Q
section
variable {X : Cx} {e : Expr} {es : List Expr} {te : TE} {t : TA} {pos : Pos}
theorem pe_tup' {x1 : Nat} (h : PA X es t) : PE X (.Tuple es x1 pos) (tTup' t) := ⟨fun pins s σ H Q I hq =>
  wpAny_Tuple_spliced (thn (h.run pos pins s σ H _ I hq) fun us s1 z => by
    obtain ⟨xs, H1, I1, r, z, q⟩ := z
    refine ⟨by rw [← r.length]; exact z, ?_⟩
    have hf := I1.fresh
    exact ⟨.ref s1.heap.objs.size, upd H1 s1.heap.objs.size (.tup xs),
      I1.laid (t' := s1.toks) (fun b u e => Heap.get?_push_of_some _ e) (Nat.le_refl _) ⟨z, us, r, ⟨_, Heap.get?_push_size _ rfl, rfl, _, rfl⟩⟩, rfl, q.mk _ hf⟩)⟩
theorem pe_lst' (h : PA X es t) : PE X (.List es pos) (tLst' t) := ⟨fun pins s σ H Q I hq =>
  wpAny_List_spliced (thn (h.run pos pins s σ H _ I hq) fun us s1 z => by
    obtain ⟨xs, H1, I1, r, z, q⟩ := z
    refine ⟨by rw [← r.length]; exact z, ?_⟩
    have hf := I1.fresh
    exact ⟨.ref s1.heap.objs.size, upd H1 s1.heap.objs.size (.lst xs),
      I1.laid (t' := s1.toks) (fun b u e => Heap.get?_push_of_some _ e) (Nat.le_refl _) ⟨z, us, 0, r, Heap.get?_push_size _ rfl⟩, rfl, q.mk _ hf⟩)⟩

/-! lists and tuples -/
def rCat' : R2 := fun x y H Q => ∃ l b xs zs, x = .ref l ∧ y = .ref b ∧ H l = some (.lst xs) ∧ H b = some (.lst zs) ∧ xs.length + zs.length ≤ sizeLine ∧ New (.lst (xs ++ zs)) H Q
theorem op_cat' : OpR X (binaryOp .Add) rCat' := op_imp op_cat fun x y H Q h => by
  obtain ⟨l, b, xs, zs, h1, h2, h3, h4, h5, q⟩ := h
  exact ⟨l, b, xs, zs, h1, h2, h3, h4, h5, q.mk⟩
def rCatT' : R2 := fun x y H Q => ∃ a b xs ys, x = .ref a ∧ y = .ref b ∧ H a = some (.tup xs) ∧ H b = some (.tup ys) ∧ xs.length + ys.length ≤ sizeLine ∧ NewT (xs ++ ys) H Q
theorem op_catT' : OpR X (binaryOp .Add) rCatT' := op_imp op_catA fun x y H Q h => by
  obtain ⟨a, b, xs, ys, h1, h2, h3, h4, h5, q⟩ := h
  refine ⟨a, b, xs, ys, h1, h2, SqT.of h3, SqT.of h4, h5, fun e => ?_, fun _ e => ?_, fun _ _ p hp => q p _ (same_new hp) upd_same⟩
  · subst e
    exact q b H (Same.refl H) h4
  · subst e
    exact q a H (Same.refl H) (by rw [List.append_nil]; exact h3)
def rRep' : R2 := fun x y H Q => ∃ l k xs, x = .ref l ∧ y = .int k ∧ H l = some (.lst xs) ∧ 0 ≤ k ∧ k ≤ 1000 ∧ xs.length * k.toNat ≤ sizeLine ∧ New (.lst (List.replicate k.toNat xs).flatten) H Q
theorem op_rep' : OpR X (binaryOp .Mult) rRep' := op_imp op_rep fun x y H Q h => by
  obtain ⟨l, k, xs, h1, h2, h3, h4, h5, h6, q⟩ := h
  exact ⟨l, k, xs, h1, h2, h3, by omega, by omega, h6, q.mk⟩
theorem sl_imp {r r' : V → Option Int → Option Int → Hp → VK → Prop} (h : SlR X r) (i : ∀ x lo hi H Q, r' x lo hi H Q → r x lo hi H Q) : SlR X r' :=
  fun pins s σ H x v vl vu lo hi sl Q I rx hs pl pu q => h pins s σ H x v vl vu lo hi sl Q I rx hs pl pu (i x lo hi H Q q)
def rSlL' : V → Option Int → Option Int → Hp → VK → Prop := fun x lo hi H Q => ∃ a xs, x = .ref a ∧ H a = some (.lst xs) ∧ New (.lst (cutV xs lo hi)) H Q
theorem sl_list' : SlR X rSlL' := sl_imp sl_list fun x lo hi H Q h => by
  obtain ⟨a, xs, h1, h2, q⟩ := h
  exact ⟨a, xs, h1, SqL.of h2, q.mk⟩
theorem cut_all {xs : List V} {lo hi : Option Int} (h : HT.sIx xs.length 0 lo = 0 ∧ HT.sIx xs.length xs.length hi = xs.length) : cutV xs lo hi = xs := by
  unfold cutV
  rw [h.1, h.2]
  simp
def rSlT' : V → Option Int → Option Int → Hp → VK → Prop := fun x lo hi H Q => ∃ a xs, x = .ref a ∧ H a = some (.tup xs) ∧ NewT (cutV xs lo hi) H Q
theorem sl_tup' : SlR X rSlT' := sl_imp sl_tupA fun x lo hi H Q h => by
  obtain ⟨a, xs, h1, h2, q⟩ := h
  refine ⟨a, xs, h1, SqT.of h2, fun w => ?_, fun _ p hp => q p _ (same_new hp) upd_same⟩
  exact q a H (Same.refl H) (by rw [cut_all w]; exact h2)
def Sq (H : Hp) (p : Addr) (ys : List V) : Prop := H p = some (.lst ys) ∨ H p = some (.tup ys)
theorem Sq.or {K : PySem.W.Frag} {H : Hp} {p : Addr} {ys : List V} (h : Sq H p ys) : SqL K H p ys ∨ SqT K H p ys := h.elim (fun h => .inl (SqL.of h)) fun h => .inr (SqT.of h)
def rList' : List V → Hp → VK → Prop := fun xs H Q => ∃ p ys, xs = [.ref p] ∧ Sq H p ys ∧ New (.lst ys) H Q
theorem call_list' : CallR X (.type "list") rList' := call_imp call_list_of fun xs H Q h => by
  obtain ⟨p, ys, h1, h2, q⟩ := h
  exact ⟨p, ys, h1, h2.or, q.mk⟩
def rTuple' : List V → Hp → VK → Prop := fun xs H Q => ∃ p ys, xs = [.ref p] ∧ Sq H p ys ∧ NewT ys H Q
theorem call_tuple' : CallR X (.type "tuple") rTuple' := call_imp call_tuple_of fun xs H Q h => by
  obtain ⟨p, ys, h1, h2, q⟩ := h
  rcases h2 with h2 | h2
  · exact ⟨p, ys, h1, .inl ⟨SqL.of h2, fun l hl => q l _ (same_new hl) upd_same⟩⟩
  · exact ⟨p, ys, h1, .inr ⟨SqT.of h2, q p H (Same.refl H) h2⟩⟩
def rLen' : List V → Hp → VK → Prop := fun xs H Q => ∃ p ys, xs = [.ref p] ∧ Sq H p ys ∧ Q (.int ys.length) H
theorem call_len' : CallR X (.builtin "len") rLen' := call_imp call_len_seq fun xs H Q h => by
  obtain ⟨p, ys, h1, h2, q⟩ := h
  exact ⟨p, ys, h1, h2.or, q⟩
def rLenK (K : PySem.W.Frag) : List V → Hp → VK → Prop := fun xs H Q => ∃ p ys, xs = [.ref p] ∧ (SqL K H p ys ∨ SqT K H p ys) ∧ Q (.int ys.length) H
theorem call_lenK : CallR X (.builtin "len") (rLenK X.K) := call_len_seq
theorem ix_imp {r r' : R2} (h : IxR X r) (i : ∀ x y H Q, r' x y H Q → r x y H Q) : IxR X r' :=
  fun value slice pins s σ H x y v u Q I rx ry q hs => h value slice pins s σ H x y v u Q I rx ry (i x y H Q q) hs
def rIx' : R2 := fun x y H Q => ∃ p xs i v, x = .ref p ∧ y = .int i ∧ Sq H p xs ∧ atI xs i = some v ∧ Q v H
theorem ix_seq' : IxR X rIx' := ix_imp (ix_list.or ix_tup) fun x y H Q h => by
  obtain ⟨p, xs, i, v, h1, h2, h3, h4, q⟩ := h
  rcases h3 with h3 | h3
  · exact .inl ⟨p, xs, i, v, h1, h2, SqL.of h3, h4, q⟩
  · exact .inr ⟨p, xs, i, v, h1, h2, SqT.of h3, h4, q⟩
/-- xs[::-1] -/
def tRev' (te : TE) : TE := fun σ H Q => te σ H fun x H1 => ∃ a xs, x = .ref a ∧ H1 a = some (.lst xs) ∧ New (.lst xs.reverse) H1 Q
end

/-! a def of the text, called -/
structure Cal (P : Program) (w : World) (K : PySem.W.Frag) (mg : Str → Option Value) (base : Heap) (k : Nat) (x : Str) (ps : List Str) (sp : Sp) : Prop where
  ex : ∃ (f : Addr) (fd : FuncData), FnOk P w K mg base CX0 k f fd ps sp ∧ mg x = some (.ref f) ∧ PySem.W.keepIn K (.ref f) = true ∧ Binds K fd ps []
def tCal (sp : Sp) (t : TA) : TE := fun σ H Q => t σ H fun vs H1 => sp vs H1 Q E0
section
variable {X : Cx} {k j : Nat} {x : Str} {ps : List Str} {sp : Sp} {e : Expr} {es : List Expr} {t : TA} {p pos : Pos}
theorem pe_cal (c : Cal X.prog X.w X.K X.mg X.base k x ps sp) (hr : Room j X.A) (ha : PA X (e :: es) t) (hkj : k ≤ j := by decide) (hg : Gl X x := by rfl) (hdb : (x == ("__debug__" : Str)) = false := by decide)
    (he : starEach (e :: es) X.env = (false, eval e X.env) :: starEach es X.env := by rfl) (hpl : (backTo pos (starEach es X.env)).any (·.1) = false := by rfl) :
    PE X (.Call (.Name x p) (e :: es) [] pos) (tCal sp t) := by
  obtain ⟨f, fd, G, m, kp, b⟩ := c.ex
  have := pe_call (pos := pos) (p := p) G (hr.mono hkj) hg m kp b .nil pass0 ha hdb he hpl
  refine ⟨fun pins s σ H Q I h => this.run pins s σ H Q I ?_⟩
  have e1 : tCal sp t = tCall sp [] E0 t := by
    funext σ H Q
    unfold tCal tCall
    simp only [List.append_nil]
  rw [← e1]
  exact h
theorem pe_cal0 (c : Cal X.prog X.w X.K X.mg X.base k x ps sp) (hr : Room j X.A) (hkj : k ≤ j := by decide) (hg : Gl X x := by rfl) (hdb : (x == ("__debug__" : Str)) = false := by decide) :
    PE X (.Call (.Name x p) [] [] pos) (tCal sp tNil) := by
  obtain ⟨f, fd, G, m, kp, b⟩ := c.ex
  exact pe_call0 (pos := pos) (p := p) G (hr.mono hkj) hg m kp b .nil pass0 hdb
end

/-! ways that meet again behind a statement: J tells where -/
def tCut (t : TS) : TS := fun D σ H => ∃ J : L2.St → Hp → Prop, t { D with nx := J } σ H ∧ ∀ σ' H', J σ' H' → D.nx σ' H'
theorem ps_cut {X : Cx} {st : Stmt} {t : TS} (h : PS X st t) : PS X st (tCut t) := ⟨fun pins s σ H D I q => by
  obtain ⟨J, q1, q2⟩ := q
  refine thn (h.run pins s σ H { D with nx := J } I q1) fun f s1 z => ?_
  cases f with
  | next =>
    obtain ⟨σ', H', I', z⟩ := z
    exact ⟨σ', H', I', q2 σ' H' z⟩
  | ret v => exact z
  | brk => exact z
  | cont => exact z⟩

/-! the pen: its list, its cells' list, the cells; how often it was asked (at most m), what is left -/
structure Pn where
  p : Addr
  c : Addr
  ns : List Int
structure Pen (q : Pn) (m : Nat) (H : Hp) : Prop where
  ex : ∃ (i n : Int), H q.p = some (.lst [.ref q.c, .int i, .int n]) ∧ H q.c = some (.lst (q.ns.map V.int)) ∧ q.c ≠ q.p ∧ 0 ≤ i ∧ i ≤ (m : Int) ∧ 0 ≤ n
theorem Pen.same {q : Pn} {m : Nat} {H H' : Hp} (h : Pen q m H) (s : Same H H') : Pen q m H' := by
  obtain ⟨i, n, h1, h2, h3⟩ := h.ex
  exact ⟨i, n, s _ _ h1, s _ _ h2, h3⟩
theorem Pen.mono {q : Pn} {m m' : Nat} {H : Hp} (h : Pen q m H) (l : m ≤ m') : Pen q m' H := by
  obtain ⟨i, n, h1, h2, h3, h4, h5, h6⟩ := h.ex
  exact ⟨i, n, h1, h2, h3, h4, by omega, h6⟩
theorem Pen.lst {q : Pn} {m : Nat} {H : Hp} (h : Pen q m H) : ∃ l, H q.p = some (.lst l) := by
  obtain ⟨i, n, h1, _⟩ := h.ex
  exact ⟨_, h1⟩
theorem Pen.free {q : Pn} {m : Nat} {H : Hp} {a : Addr} (h : Pen q m H) (e : H a = none) : a ≠ q.p ∧ a ≠ q.c := by
  obtain ⟨i, n, h1, h2, _⟩ := h.ex
  refine ⟨fun z => ?_, fun z => ?_⟩
  · rw [z, h1] at e
    cases e
  · rw [z, h2] at e
    cases e
/-- an object that is not the pen's is changed -/
theorem Pen.upd {q : Pn} {m : Nat} {H : Hp} {a : Addr} {o : HO} (h : Pen q m H) (n : a ≠ q.p ∧ a ≠ q.c) : Pen q m (upd H a o) := by
  obtain ⟨i, r, h1, h2, h3⟩ := h.ex
  exact ⟨i, r, by rw [upd_ne n.1.symm]; exact h1, by rw [upd_ne n.2.symm]; exact h2, h3⟩
/-- what stands but for the list at p stands -/
def Kp (p : Addr) (H H' : Hp) : Prop := ∀ a o, (a ≠ p ∨ ∀ l, o ≠ HO.lst l) → H a = some o → H' a = some o
theorem Kp.refl {p : Addr} {H : Hp} : Kp p H H := fun _ _ _ h => h
theorem Kp.trans {p : Addr} {H H1 H2 : Hp} (a : Kp p H H1) (b : Kp p H1 H2) : Kp p H H2 := fun c o n h => b c o n (a c o n h)
theorem Kp.same {p : Addr} {H H' : Hp} (s : Same H H') : Kp p H H' := fun a o _ h => s a o h
theorem Kp.tup {p a : Addr} {H H' : Hp} {xs : List V} (k : Kp p H H') (h : H a = some (.tup xs)) : H' a = some (.tup xs) := k a _ (.inr fun l z => by cases z) h
theorem Kp.lst {p a : Addr} {H H' : Hp} {xs : List V} (k : Kp p H H') (n : a ≠ p) (h : H a = some (.lst xs)) : H' a = some (.lst xs) := k a _ (.inl n) h
theorem Kp.ins {p a C dx : Addr} {H H' : Hp} {fs : List (Str × V)} (k : Kp p H H') (h : H a = some (.ins C dx fs)) : H' a = some (.ins C dx fs) := k a _ (.inr fun l z => by cases z) h
/-- what a call with the pen leaves: all but the pen as it was, a pen again -/
structure Go (q : Pn) (m : Nat) (H H' : Hp) : Prop where
  kp : Kp q.p H H'
  pen : Pen q m H'
theorem Go.refl {q : Pn} {m : Nat} {H : Hp} (h : Pen q m H) : Go q m H H := ⟨Kp.refl, h⟩
theorem Go.trans {q : Pn} {m m' : Nat} {H H1 H2 : Hp} (a : Go q m H H1) (b : Go q m' H1 H2) : Go q m' H H2 := ⟨a.kp.trans b.kp, b.pen⟩
theorem Go.mono {q : Pn} {m m' : Nat} {H H' : Hp} (a : Go q m H H') (l : m ≤ m') : Go q m' H H' := ⟨a.kp, a.pen.mono l⟩
theorem Go.same {q : Pn} {m : Nat} {H H1 H2 : Hp} (a : Go q m H H1) (s : Same H1 H2) : Go q m H H2 := ⟨a.kp.trans (Kp.same s), a.pen.same s⟩
theorem Go.of {q : Pn} {m : Nat} {H H1 : Hp} (h : Pen q m H) (s : Same H H1) : Go q m H H1 := ⟨Kp.same s, h.same s⟩
/-- the pen's own list is stored into -/
theorem Go.at_ {q : Pn} {m m' : Nat} {H : Hp} {l : List V} (h : Pen q m H) (e : Pen q m' (L2.upd H q.p (.lst l))) : Go q m' H (L2.upd H q.p (.lst l)) := ⟨fun a o n k => by
  by_cases z : a = q.p
  · obtain ⟨l', e'⟩ := h.lst
    rcases n with n | n
    · exact absurd z n
    · rw [z, e'] at k
      exact absurd (Option.some.inj k).symm (n l')
  · rw [upd_ne z]
    exact k, e⟩
/-- a list that is new since H is changed -/
theorem Go.mut {q : Pn} {m : Nat} {H H' : Hp} {D : Addr} {o : HO} (h : Pen q m H) (hD : H D = none) {m' : Nat} (g : Go q m' H H') : Go q m' H (L2.upd H' D o) :=
  ⟨fun a u n e => by rw [upd_ne (ne_of_none e hD)]; exact g.kp a u n e, g.pen.upd (h.free hD)⟩
theorem Go.none {q : Pn} {m m' : Nat} {H H' : Hp} {a : Addr} (g : Go q m H H') (h : Pen q m' H) (e : H' a = none) : H a = none := by
  have z := (g.pen.free e).1
  cases k : H a with
  | none => rfl
  | some o =>
    rw [g.kp a o (.inl z) k] at e
    cases e
theorem sz {n : Nat} (h : n ≤ 100000) : n ≤ sizeLine := Nat.le_trans h (by decide)
theorem szr {n : Nat} (h : Nat.ble n 100000 = true := by rfl) : n ≤ sizeLine := sz (Nat.le_of_ble_eq_true h)
theorem szl {n : Nat} (h : n < 100000) : n < sizeLine := Nat.lt_of_lt_of_le h (by decide)

/-! data -/
def ivs (ns : List Int) : List V := ns.map V.int
def dvs (ns : List Int) : List PyData := ns.map PyData.int
theorem dp_ints {K : PySem.W.Frag} {H : Hp} : ∀ ns : List Int, DpAll K H (ivs ns) (dvs ns)
  | [] => .nil
  | n :: ns => .cons (.int n) (dp_ints ns)
theorem lay_ints : ∀ ns : List Int, PyData.canLayAll0 (dvs ns) = true
  | [] => rfl
  | n :: ns => by
    show (PyData.canLay0 (.int n) && PyData.canLayAll0 (dvs ns)) = true
    rw [lay_ints ns]
    rfl
theorem deep_ints : ∀ ns : List Int, PyData.depthAll (dvs ns) = 0
  | [] => rfl
  | n :: ns => by
    show max (PyData.depth (.int n)) (PyData.depthAll (dvs ns)) = 0
    rw [deep_ints ns]
    rfl
theorem eqv_nil (ns : List Int) : PyData.eqv (.list (dvs ns)) (.list []) = ns.isEmpty := by
  cases ns <;> rfl
def rNeNil : R2 := fun x y H Q => ∃ a b ns, x = .ref a ∧ y = .ref b ∧ H a = some (.lst (ivs ns)) ∧ H b = some (.lst []) ∧ Q (.bl (!ns.isEmpty)) H
theorem op_neNil {X : Cx} (hu : X.A.units + 64 < cLine) : OpR X (compareOp .NotEq) rNeNil := op_imp (op_neD hu) fun x y H Q h => by
  obtain ⟨a, b, ns, rfl, rfl, h1, h2, q⟩ := h
  refine ⟨.list (dvs ns), .list [], .lst (SqL.of h1) (dp_ints ns), .lst (SqL.of h2) .nil, ?_, by decide, ?_⟩
  · show (PyData.canLayAll0 (dvs ns) && decide (PyData.depthAll (dvs ns) + 1 ≤ 64)) = true
    rw [lay_ints, deep_ints]
    rfl
  · rw [eqv_nil]
    exact q
end Af

set_option Elab.async false
set_option linter.all false
set_option maxRecDepth 100000
namespace Af
open PySem L2
def top (i : Nat) : Stmt := PySem.Challenge.pw_afterfall_k37_errors_of_guards.main.body.getD i (.Pass ⟨0, 0, 0, 0⟩)
/-- names of the built-ins that the text does not hide -/
structure Txt (mg : Str → Option Value) : Prop where
  len : mg "len" = none
  int : mg "int" = none
  list : mg "list" = none
  tuple : mg "tuple" = none
  range : mg "range" = none
  min : mg "min" = none
  all : mg "all" = none
  enumerate : mg "enumerate" = none
  zip : mg "zip" = none
  isinstance : mg "isinstance" = none
  bool : mg "bool" = none
abbrev s_l_pen : Stmt := top 63
abbrev N_l_pen : List Str := ["_law_script"]
theorem sc_l_pen : FnScope N_l_pen ["_law_script"] (defScope s_l_pen) := ⟨rfl, rfl, rfl, by decide +kernel, rfl, by decide +kernel, by decide +kernel⟩

abbrev s_l_next : Stmt := top 64
abbrev N_l_next : List Str := ["_law_pen_here", "_law_index", "_law_cell_here", "_law_some_here", "_law_more", "_law_high"]
theorem sc_l_next : FnScope N_l_next ["_law_pen_here"] (defScope s_l_next) := ⟨rfl, rfl, rfl, by decide +kernel, rfl, by decide +kernel, by decide +kernel⟩

abbrev s_l_draw : Stmt := top 65
abbrev N_l_draw : List Str := ["_law_pen_here", "_law_under", "_law_digit"]
theorem sc_l_draw : FnScope N_l_draw ["_law_pen_here", "_law_under"] (defScope s_l_draw) := ⟨rfl, rfl, rfl, by decide +kernel, rfl, by decide +kernel, by decide +kernel⟩

def sp_pen (K : PySem.W.Frag) : Sp := fun vs H Q _ => ∃ (a : Addr) (ns : List Int), vs = [.ref a] ∧ SqL K H a (ns.map V.int) ∧ ∀ (q : Pn) H', Same H H' → H q.p = none → H q.c = none → Pen q 0 H' → Q (.ref q.p) H'
def sp_next : Sp := fun vs H Q _ => ∃ (q : Pn) (m : Nat), vs = [.ref q.p] ∧ Pen q m H ∧ m < 1000000000000 ∧ ∀ r H', 0 ≤ r → Go q (m + 1) H H' → Q (.int r) H'
def sp_draw : Sp := fun vs H Q _ => ∃ (q : Pn) (m : Nat) (u : Int), vs = [.ref q.p, .int u] ∧ 0 < u ∧ u < 1073741824 ∧ Pen q m H ∧ m < 1000000000000 ∧ ∀ d H', 0 ≤ d → d < u → Go q (m + 1) H H' → Q (.int d) H'
section
variable {P : Program} {w : World} {K : PySem.W.Frag} {mg : Str → Option Value} {base : Heap}
theorem ok_pen {f : Addr} {fd : FuncData} (F : Fun K "_law_pen" "_law_pen" s_l_pen f fd) (T : Txt mg) : FnOk P w K mg base CX0 1 f fd ["_law_script"] (sp_pen K) := by
  refine F.ok sc_l_pen (fun vs H Q E h => ?_) (fun cdv A outer s H vs Q E hr h => ?_)
  · obtain ⟨a, ns, rfl, _⟩ := h
    rfl
  obtain ⟨a, ns, rfl, hS, k⟩ := h
  refine ⟨_, (pss_one (ps_ret (pe_lst' (pa_cons (pe_callTy call_list' (by rfl) T.list (by decide +kernel) (pa_cons (pe_slice sl_list (pv 0) po_none (po_some pe_int)) pa_nil)) (pa_cons pe_int (pa_cons pe_int pa_nil)))))), ?_⟩
  refine ⟨_, rfl, 60, rfl, a, _, rfl, hS, fun c hc => ?_⟩
  have e1 : cutV (ns.map V.int) none (some 60) = (ns.take 60).map V.int := by
    unfold cutV
    have : HT.sIx (ns.map V.int).length (ns.map V.int).length (some 60) = min 60 (ns.map V.int).length := HT.sIx_nat _ _ 60
    rw [this, HT.sIx_none, List.drop_zero, Nat.sub_zero, ← List.map_take]
    congr 1
    rw [List.length_map]
    rcases Nat.le_total 60 ns.length with z | z
    · rw [Nat.min_eq_left z]
    · rw [Nat.min_eq_right z, List.take_of_length_le z, List.take_of_length_le (Nat.le_refl _)]
  refine ⟨c, _, rfl, .inl upd_same, fun d H1 hd s1 hd1 => ?_⟩
  refine ⟨sz (by show 3 ≤ 100000; decide), fun p H2 hp s2 hp2 => ?_⟩
  refine k ⟨p, d, ns.take 60⟩ H2 ((same_new hc).trans (s1.trans s2)) ?_ ?_ ⟨0, 0, hp2, ?_, ?_, Int.le_refl _, Int.le_refl _, Int.le_refl _⟩
  · exact (same_new hc).free (s1.free hp)
  · exact (same_new hc).free hd
  · rw [← e1]
    exact s2 _ _ hd1
  · intro z
    have z' : d = p := z
    rw [← z', hd1] at hp
    cases hp
theorem mod_in {i n : Int} (h : 0 < n) : 0 ≤ i % n ∧ i % n < n := ⟨Int.emod_nonneg i (by omega), Int.emod_lt_of_pos i h⟩
theorem at_mod {ns : List Int} {i : Int} (h : ns ≠ []) : ∃ z, atI (ivs ns) (i % ((ivs ns).length : Int)) = some (.int z) := by
  have hl : 0 < (ivs ns).length := by
    unfold ivs
    rw [List.length_map]
    exact List.length_pos_iff.mpr h
  obtain ⟨a, b⟩ := mod_in (i := i) (n := ((ivs ns).length : Int)) (by omega)
  obtain ⟨j, hj⟩ := Int.eq_ofNat_of_zero_le a
  rw [hj] at b ⊢
  have hj' : j < ns.length := by
    unfold ivs at b
    rw [List.length_map] at b
    omega
  refine ⟨ns[j], atI_nat ?_⟩
  unfold ivs
  rw [List.getElem?_map, List.getElem?_eq_getElem hj']
  rfl
theorem ok_next {f : Addr} {fd : FuncData} (F : Fun K "_law_next" "_law_next" s_l_next f fd) (T : Txt mg) : FnOk P w K mg base CX0 1 f fd ["_law_pen_here"] sp_next := by
  refine F.ok sc_l_next (fun vs H Q E h => ?_) (fun cdv A outer s H vs Q E hr h => ?_)
  · obtain ⟨a, m, rfl, _⟩ := h
    rfl
  obtain ⟨q, m, rfl, hP, hm, k⟩ := h
  obtain ⟨i, n, h1, h2, hc, hi, him, hn⟩ := hP.ex
  refine ⟨_, (pss_cons (ps_set (i := 1) sc_l_next.nd rfl (Or.inl rfl) (pe_ix ix_seq' (pv 0) pe_int (fun _ _ => rfl)))
    (pss_cons (ps_asg (pe_op op_add (pv 1) pe_int) (pg_sub (pv 0) pe_int set_list))
    (pss_cons (ps_set (i := 2) sc_l_next.nd rfl (Or.inl rfl) (pe_op op_add (pe_op op_mul (pv 1) pe_int) pe_int))
    (pss_cons (ps_cut (ps_if (pt_cmpR (op_neNil hr.units) (pe_ix ix_seq' (pv 0) pe_int (fun _ _ => rfl)) (pe_lst' pa_nil) (nomark _))
      (pss_one (ps_set (i := 2) sc_l_next.nd rfl (Or.inl rfl) (pe_ix ix_seq' (pe_ix ix_seq' (pv 0) pe_int (fun _ _ => rfl)) (pe_op op_mod (pe_callTy call_int1 (by rfl) T.int (by decide +kernel) (pa_cons (pv 1) pa_nil)) (pe_callB call_len' (by rfl) T.len (by decide +kernel) (pa_cons (pe_ix ix_seq' (pv 0) pe_int (fun _ _ => rfl)) pa_nil))) (fun _ _ => rfl))))
      pss_nil))
    (pss_cons (ps_cut (ps_if (PW.pt (pw_and (pt_cmpR op_lt (pv 1) (pe_callB call_len' (by rfl) T.len (by decide +kernel) (pa_cons (pe_ix ix_seq' (pv 0) pe_int (fun _ _ => rfl)) pa_nil)) (nomark _)) (pw_and1 (pt_cmpR op_ge (pv 2) (pe_op op_pow pe_int pe_int) (nomark _)))))
      (pss_one (ps_ret (pv 2)))
      pss_nil))
    (pss_cons (ps_set (i := 3) sc_l_next.nd rfl (Or.inl rfl) (pe_op op_mod (pe_callTy call_int1 (by rfl) T.int (by decide +kernel) (pa_cons (pe_op op_add (pe_op op_add (pe_op op_mod (pe_callTy call_int1 (by rfl) T.int (by decide +kernel) (pa_cons (pv 2) pa_nil)) pe_int) (pe_op op_mul (pv 1) pe_int)) pe_int) pa_nil)) pe_int))
    (pss_cons (ps_set (i := 4) sc_l_next.nd rfl (Or.inl rfl) (pe_op op_mod (pe_callTy call_int1 (by rfl) T.int (by decide +kernel) (pa_cons (pe_op op_add (pe_op op_add (pe_op op_mul (pv 3) (pv 3)) (pe_op op_mul (pv 1) pe_int)) pe_int) pa_nil)) pe_int))
    (pss_cons (ps_set (i := 5) sc_l_next.nd rfl (Or.inl rfl) (pe_op op_mod (pe_callTy call_int1 (by rfl) T.int (by decide +kernel) (pa_cons (pe_op op_add (pe_op op_add (pe_op op_mul (pv 4) (pv 4)) (pv 3)) (pe_op op_mul (pe_op op_mul (pv 1) (pv 1)) pe_int)) pa_nil)) pe_int))
    (pss_one (ps_ret (pe_op op_add (pe_op op_mul (pe_op op_add (pe_op op_mul (pv 5) pe_int) (pv 4)) pe_int) (pv 3)))))))))))), ?_⟩
  -- the count, the cell
  refine ⟨_, rfl, q.p, _, _, _, rfl, rfl, .inl h1, rfl, ?_⟩
  refine ⟨_, rfl, _, _, rfl, rfl, _, rfl, q.p, _, _, _, rfl, rfl, h1, rfl, ?_⟩
  refine ⟨_, rfl, _, _, rfl, rfl, .inr ⟨by decide, by decide⟩, _, _, rfl, rfl, ?_⟩
  have e1 : (upd H q.p (.lst [.ref q.c, .int (i + 1), .int n])) q.p = some (.lst [.ref q.c, .int (i + 1), .int n]) := upd_same
  have g1 : Go q (m + 1) H (upd H q.p (.lst [.ref q.c, .int (i + 1), .int n])) := Go.at_ hP ⟨i + 1, n, upd_same, by rw [upd_ne hc]; exact h2, hc, by omega, by omega, hn⟩
  have e2 : (upd H q.p (.lst [.ref q.c, .int (i + 1), .int n])) q.c = some (.lst (ivs q.ns)) := by rw [upd_ne hc]; exact h2
  refine ⟨fun σ' H' => ∃ cell : Int, σ' = [some (.ref q.p), some (.int i), some (.int cell), none, none, none] ∧ Go q (m + 1) H H' ∧ H' q.p = some (.lst [.ref q.c, .int (i + 1), .int n]) ∧ H' q.c = some (.lst (ivs q.ns)), ?_, ?_⟩
  · refine ⟨_, rfl, q.p, _, _, _, rfl, rfl, .inl e1, rfl, ?_⟩
    refine ⟨sz (by decide), fun e H1 he s1 he1 => ?_⟩
    have k1 := s1 _ _ e1
    have k2 := s1 _ _ e2
    have g2 := g1.same s1
    refine ⟨q.c, e, q.ns, rfl, rfl, k2, he1, _, rfl, ?_⟩
    by_cases hns : q.ns = []
    · have z : (!q.ns.isEmpty) = false := by rw [hns]; rfl
      rw [z]
      exact iteF ⟨_, rfl, g2, k1, k2⟩
    · have z : (!q.ns.isEmpty) = true := by
        cases e : q.ns with
        | nil => exact absurd e hns
        | cons a b => rfl
      rw [z]
      refine iteT ?_
      obtain ⟨v, hv⟩ := at_mod (i := i) hns
      refine ⟨_, rfl, q.p, _, _, _, rfl, rfl, .inl k1, rfl, ?_⟩
      refine ⟨_, rfl, .inl ⟨_, rfl, ?_⟩⟩
      refine ⟨_, rfl, q.p, _, _, _, rfl, rfl, .inl k1, rfl, q.c, _, rfl, .inl k2, ?_⟩
      refine ⟨_, _, rfl, rfl, ?_, q.c, _, _, _, rfl, rfl, .inl k2, hv, ?_⟩
      · unfold ivs
        rw [List.length_map]
        have := List.length_pos_iff.mpr hns
        omega
      · exact ⟨v, rfl, g2, k1, k2⟩
  · rintro σ' H' ⟨cell, rfl, g2, k1, k2⟩
    -- a great cell is taken as it is
    refine ⟨fun σ'' H'' => σ'' = [some (.ref q.p), some (.int i), some (.int cell), none, none, none] ∧ H'' = H', ?_, ?_⟩
    · refine ⟨_, rfl, _, rfl, q.p, _, _, _, rfl, rfl, .inl k1, rfl, q.c, _, rfl, .inl k2, ?_⟩
      refine ⟨_, _, rfl, rfl, _, rfl, ite2 (fun _ => ?_) (fun _ => iteF ⟨rfl, rfl⟩)⟩
      refine ⟨_, rfl, _, _, rfl, rfl, ⟨by decide, by decide, by decide⟩, _, _, rfl, rfl, _, rfl, ite2 (fun q => ?_) (fun _ => ⟨rfl, rfl⟩)⟩
      refine ⟨_, rfl, k cell H' ?_ g2⟩
      have q' : (10 : Int) ^ (18 : Nat) ≤ cell := of_decide_eq_true q
      omega
    · rintro σ'' H'' ⟨rfl, rfl⟩
      have M1 : (0 : Int) < 2147483587 := by decide
      refine ⟨_, rfl, .inl ⟨_, rfl, _, _, rfl, rfl, M1, ?_⟩⟩
      refine ⟨_, rfl, _, _, rfl, rfl, .inr ⟨by decide, by decide⟩, _, _, rfl, rfl, _, _, rfl, rfl, .inl ⟨_, rfl, _, _, rfl, rfl, M1, ?_⟩⟩
      generalize hs : ((cell % 2147483587 + i * 30119 + 89) % 2147483587 : Int) = some1
      have b1 := mod_in (i := cell % 2147483587 + i * 30119 + 89) M1
      rw [hs] at b1
      have M2 : (0 : Int) < 2147483563 := by decide
      refine ⟨_, rfl, _, rfl, _, _, rfl, rfl, .inl ⟨by omega, by omega⟩, _, rfl, _, _, rfl, rfl, .inr ⟨by decide, by decide⟩, _, _, rfl, rfl, _, _, rfl, rfl, .inl ⟨_, rfl, _, _, rfl, rfl, M2, ?_⟩⟩
      generalize hs2 : ((some1 * some1 + i * 70061 + 71) % 2147483563 : Int) = more
      have b2 := mod_in (i := some1 * some1 + i * 70061 + 71) M2
      rw [hs2] at b2
      have M3 : (0 : Int) < 2147483549 := by decide
      refine ⟨_, rfl, _, rfl, _, _, rfl, rfl, .inl ⟨by omega, by omega⟩, _, rfl, _, _, rfl, rfl, _, rfl, _, rfl, _, _, rfl, rfl, .inl ⟨by omega, by omega⟩, _, _, rfl, rfl, .inr ⟨by decide, by decide⟩, _, _, rfl, rfl, .inl ⟨_, rfl, _, _, rfl, rfl, M3, ?_⟩⟩
      generalize hs3 : ((more * more + some1 + i * i * 47) % 2147483549 : Int) = high
      have b3 := mod_in (i := more * more + some1 + i * i * 47) M3
      rw [hs3] at b3
      refine ⟨_, rfl, _, _, rfl, rfl, .inr ⟨by decide, by decide⟩, _, rfl, _, _, rfl, rfl, _, _, rfl, rfl, .inr ⟨by decide, by decide⟩, _, rfl, _, _, rfl, rfl, ?_⟩
      exact k _ H'' (by omega) g2
theorem ok_draw {f : Addr} {fd : FuncData} (F : Fun K "_law_draw" "_law_draw" s_l_draw f fd) (T : Txt mg) (c_l_next : Cal P w K mg base 1 "_law_next" ["_law_pen_here"] sp_next) : FnOk P w K mg base CX0 2 f fd ["_law_pen_here", "_law_under"] sp_draw := by
  refine F.ok sc_l_draw (fun vs H Q E h => ?_) (fun cdv A outer s H vs Q E hr h => ?_)
  · obtain ⟨a, m, u, rfl, _⟩ := h
    rfl
  obtain ⟨q, m, u, rfl, u0, u1, hP, hm, k⟩ := h
  refine ⟨_, (pss_cons (ps_cut (ps_if (pt_cmpR op_lt (pe_ix ix_seq' (pv 0) pe_int (fun _ _ => rfl)) (pv 1) (nomark _))
      (pss_one (ps_asg (pe_cal c_l_next hr (pa_cons (pv 0) pa_nil)) (pg_sub (pv 0) pe_int set_list)))
      pss_nil))
    (pss_cons (ps_set (i := 2) sc_l_draw.nd rfl (Or.inl rfl) (pe_op op_mod (pe_callTy call_int1 (by rfl) T.int (by decide +kernel) (pa_cons (pe_ix ix_seq' (pv 0) pe_int (fun _ _ => rfl)) pa_nil)) (pv 1)))
    (pss_cons (ps_asg (pe_op op_fdiv (pe_ix ix_seq' (pv 0) pe_int (fun _ _ => rfl)) (pv 1)) (pg_sub (pv 0) pe_int set_list))
    (pss_one (ps_ret (pv 2)))))), ?_⟩
  refine ⟨fun σ' H' => ∃ i n, σ' = [some (.ref q.p), some (.int u), none] ∧ Go q (m + 1) H H' ∧ H' q.p = some (.lst [.ref q.c, .int i, .int n]) ∧ H' q.c = some (.lst (ivs q.ns)) ∧ q.c ≠ q.p ∧ 0 ≤ i ∧ i ≤ ((m + 1 : Nat) : Int) ∧ 0 ≤ n, ?_, ?_⟩
  · obtain ⟨i, n, h1, h2, hc, hi, him, hn⟩ := hP.ex
    refine ⟨_, rfl, q.p, _, _, _, rfl, rfl, .inl h1, rfl, _, rfl, _, _, rfl, rfl, _, rfl, ite2 (fun _ => ?_) (fun _ => ?_)⟩
    · refine ⟨_, rfl, q, m, rfl, hP, hm, fun r H1 r0 g1 => ?_⟩
      obtain ⟨i, n, h1, h2, hc, hi, him, hn⟩ := g1.pen.ex
      refine ⟨_, rfl, q.p, _, _, _, rfl, rfl, h1, rfl, i, r, rfl, ?_, upd_same, by rw [upd_ne hc]; exact h2, hc, hi, him, r0⟩
      exact g1.trans (Go.at_ g1.pen ⟨i, r, upd_same, by rw [upd_ne hc]; exact h2, hc, hi, him, r0⟩)
    · exact ⟨i, n, rfl, (Go.refl hP).mono (Nat.le_succ m), h1, h2, hc, hi, by omega, hn⟩
  · rintro σ' H' ⟨i, n, rfl, g1, h1, h2, hc, hi, him, hn⟩
    refine ⟨_, rfl, q.p, _, _, _, rfl, rfl, .inl h1, rfl, .inl ⟨_, rfl, _, rfl, _, _, rfl, rfl, u0, ?_⟩⟩
    refine ⟨_, rfl, q.p, _, _, _, rfl, rfl, .inl h1, rfl, _, rfl, _, _, rfl, rfl, ⟨u0, u1⟩, _, rfl, q.p, _, _, _, rfl, rfl, h1, rfl, ?_⟩
    obtain ⟨b0, b1⟩ := mod_in (i := n) u0
    refine ⟨_, rfl, k _ _ b0 b1 (g1.trans (Go.at_ g1.pen ⟨i, n / u, upd_same, by rw [upd_ne hc]; exact h2, hc, hi, him, Int.ediv_nonneg hn (by omega)⟩))⟩
end
end Af

set_option Elab.async false
set_option linter.all false
set_option maxRecDepth 100000
namespace Af
open PySem L2
theorem same_mut {H H' : Hp} {D : Addr} {o : HO} (s : Same H H') (h : H D = none) : Same H (upd H' D o) := fun a u e => by
  rw [upd_ne (ne_of_none e h)]
  exact s a u e
/-! data: a step, a plan's parts -/
abbrev Stp := Option (Int × List Int)
def StepV (H : Hp) : V → Stp → Prop
  | x, none => x = .non
  | x, some (f, ws) => ∃ a b, x = .ref a ∧ H a = some (.tup [.int f, .ref b]) ∧ H b = some (.tup (ivs ws))
structure Pl where
  cs : List Int
  w : Int
  sts : List Stp
structure PlanV (p : Addr) (H : Hp) (v : V) (pl : Pl) : Prop where
  ex : ∃ a ca sa xs, v = .ref a ∧ H a = some (.tup [.ref ca, .int pl.w, .ref sa]) ∧ H ca = some (.tup (ivs pl.cs)) ∧ sa ≠ p ∧ H sa = some (.lst xs) ∧ Paired (StepV H) xs pl.sts
theorem StepV.kp {p : Addr} {H H' : Hp} (k : Kp p H H') : ∀ {x : V} {st : Stp}, StepV H x st → StepV H' x st
  | x, none, h => h
  | x, some (f, ws), h => by
    obtain ⟨a, b, e, h1, h2⟩ := h
    exact ⟨a, b, e, k.tup h1, k.tup h2⟩
theorem steps_kp {p : Addr} {H H' : Hp} {xs : List V} {sts : List Stp} (k : Kp p H H') (h : Paired (StepV H) xs sts) : Paired (StepV H') xs sts := L2.Paired.mapP h fun _ _ z => z.kp k
theorem steps_same {H H' : Hp} {xs : List V} {sts : List Stp} (k : Same H H') (h : Paired (StepV H) xs sts) : Paired (StepV H') xs sts := steps_kp (p := 0) (Kp.same k) h
theorem PlanV.kp {p : Addr} {H H' : Hp} {v : V} {pl : Pl} (k : Kp p H H') (h : PlanV p H v pl) : PlanV p H' v pl := by
  obtain ⟨a, ca, sa, xs, e, h1, h2, n, h3, h4⟩ := h.ex
  exact ⟨a, ca, sa, xs, e, k.tup h1, k.tup h2, n, k.lst n h3, steps_kp k h4⟩
theorem PlanV.same {p : Addr} {H H' : Hp} {v : V} {pl : Pl} (k : Same H H') (h : PlanV p H v pl) : PlanV p H' v pl := h.kp (Kp.same k)
theorem paired_app {α β : Type} {F : α → β → Prop} : ∀ {a c : List α} {b d : List β}, Paired F a b → Paired F c d → Paired F (a ++ c) (b ++ d)
  | _, _, _, _, .nil, h => h
  | _, _, _, _, .cons r t, h => .cons r (paired_app t h)
theorem paired_take {α β : Type} {F : α → β → Prop} : ∀ {a : List α} {b : List β} (n : Nat), Paired F a b → Paired F (a.take n) (b.take n)
  | _, _, 0, _ => by
    rw [List.take_zero, List.take_zero]
    exact .nil
  | _, _, n + 1, .nil => .nil
  | _, _, n + 1, .cons r t => .cons r (paired_take n t)
theorem paired_drop {α β : Type} {F : α → β → Prop} : ∀ {a : List α} {b : List β} (n : Nat), Paired F a b → Paired F (a.drop n) (b.drop n)
  | _, _, 0, h => h
  | _, _, n + 1, .nil => .nil
  | _, _, n + 1, .cons r t => paired_drop n t
theorem paired_rev {α β : Type} {F : α → β → Prop} : ∀ {a : List α} {b : List β}, Paired F a b → Paired F a.reverse b.reverse
  | _, _, .nil => .nil
  | _, _, .cons r t => by
    rw [List.reverse_cons, List.reverse_cons]
    exact paired_app (paired_rev t) (.cons r .nil)
theorem paired_get {α β : Type} {F : α → β → Prop} : ∀ {a : List α} {b : List β} {i : Nat} {x : α}, Paired F a b → a[i]? = some x → ∃ y, b[i]? = some y ∧ F x y
  | _, _, _, _, .nil, e => by simp at e
  | _, _, 0, x, .cons r _, e => by
    simp at e
    subst e
    exact ⟨_, rfl, r⟩
  | _, _, i + 1, x, .cons _ t, e => by
    obtain ⟨y, h1, h2⟩ := paired_get (i := i) (x := x) t (by simpa using e)
    exact ⟨y, by simpa using h1, h2⟩
theorem paired_len {α β : Type} {F : α → β → Prop} : ∀ {a : List α} {b : List β}, Paired F a b → a.length = b.length
  | _, _, .nil => rfl
  | _, _, .cons _ t => by
    rw [List.length_cons, List.length_cons, paired_len t]
theorem ivs_len (ns : List Int) : (ivs ns).length = ns.length := List.length_map ..
theorem ivs_get {ns : List Int} {i : Nat} (h : i < ns.length) : (ivs ns)[i]? = some (.int ns[i]) := by
  unfold ivs
  rw [List.getElem?_map, List.getElem?_eq_getElem h]
  rfl
/-- a step of a store of n cells -/
def OkS (n : Nat) : Stp → Prop
  | none => True
  | some (f, ws) => 0 ≤ f ∧ ws ≠ [] ∧ f + (ws.length : Int) ≤ (n : Int) ∧ ∀ z ∈ ws, 0 ≤ z ∧ z < 8
def stl : Stp → Nat
  | none => 0
  | some (_, ws) => ws.length
def tot (l : List Stp) : Nat := (l.map stl).sum
theorem tot_nil : tot [] = 0 := rfl
theorem tot_cons (a : Stp) (b : List Stp) : tot (a :: b) = stl a + tot b := by
  unfold tot
  rw [List.map_cons, List.sum_cons]
theorem tot_app (a b : List Stp) : tot (a ++ b) = tot a + tot b := by
  unfold tot
  rw [List.map_append, List.sum_append]
theorem tot_one (a : Stp) : tot [a] = stl a := by
  rw [tot_cons, tot_nil, Nat.add_zero]
theorem tot_take_drop (l : List Stp) (n : Nat) : tot (l.take n) + tot (l.drop n) = tot l := by
  rw [← tot_app, List.take_append_drop]
theorem tot_rev (l : List Stp) : tot l.reverse = tot l := by
  induction l with
  | nil => rfl
  | cons a l ih => rw [List.reverse_cons, tot_app, tot_one, tot_cons, ih, Nat.add_comm]
/-- a plan that the program takes, with room to spare for s steps and t cells of writes -/
structure Good (s t : Nat) (pl : Pl) : Prop where
  c1 : 1 ≤ pl.cs.length
  c24 : pl.cs.length ≤ 24
  cb : ∀ z ∈ pl.cs, 0 ≤ z ∧ z < 8
  w1 : 1 ≤ pl.w
  w24 : pl.w ≤ 24
  st : ∀ x ∈ pl.sts, OkS pl.cs.length x
  sl : pl.sts.length ≤ s
  tl : tot pl.sts ≤ t
theorem Good.mono {s t s' t' : Nat} {pl : Pl} (g : Good s t pl) (h1 : s ≤ s') (h2 : t ≤ t') : Good s' t' pl := ⟨g.c1, g.c24, g.cb, g.w1, g.w24, g.st, Nat.le_trans g.sl h1, Nat.le_trans g.tl h2⟩
/-! a comprehension whose element is a draw -/
theorem lc_draws {te : TE} {j : Nat} {vs : List Nat} {σ : L2.St} {q : Pn} {m n : Nat} {u : Int} {H : Hp} {R : Addr → Hp → Prop} (hP : Pen q m H) (hn : n ≤ 10000)
    (hw : ∀ x, wipe ((wipe σ vs).set j (some x)) vs = wipe σ vs)
    (hte : ∀ (x : V) (H1 : Hp) (Q : VK) (m1 : Nat), Pen q m1 H1 → m1 < m + n → (∀ d H', 0 ≤ d → d < u → Go q (m1 + 1) H1 H' → Q (.int d) H') → te ((wipe σ vs).set j (some x)) H1 Q)
    (k : ∀ D H' ns, H D = none → Go q (m + n) H H' → H' D = some (.lst (ivs ns)) → ns.length = n → (∀ z ∈ ns, 0 ≤ z ∧ z < u) → R D H') :
    ∀ D, H D = none → ∃ W : Nat → Nat → Hp → Prop, (∃ m, W 0 m (upd H D (.lst []))) ∧ ∀ i m H, W i m H →
      ((Itr 0 n).stop i H ∧ R D H) ∨ ((Itr 0 n).go i H ∧ ∃ Nx : Hp → Prop, (∀ H', Nx H' → ∃ m', m' < m ∧ W (i + 1) m' H') ∧ ∀ x H', (Itr 0 n).yld i H x H' → (gName j) x (wipe σ vs) H' fun σ2 H2 => wipe σ2 vs = wipe σ vs ∧ tYes σ2 H2 fun b H3 =>
        if b = true then te σ2 H3 fun y H4 => ∃ acc, H4 D = some (.lst acc) ∧ acc.length < sizeLine ∧ Nx (upd H4 D (.lst (acc ++ [y]))) else Nx H3) := by
  intro D hD
  refine lc_range (lo := 0) (n := n) (g := gName j) (tt := tYes) (te := te) (vs := vs) (σ := σ) (H1 := H) (D := D) (Qd := fun H' => R D H')
    (fun i H' => ∃ ns, Go q (m + i) H H' ∧ H' D = some (.lst (ivs ns)) ∧ ns.length = i ∧ ∀ z ∈ ns, 0 ≤ z ∧ z < u) ?_ ?_ ?_
  · exact ⟨[], (Go.of hP (same_new hD)), upd_same, rfl, fun z hz => by simp at hz⟩
  · rintro i H' hi ⟨ns, g, hL, hl, hb⟩
    refine ⟨hw _, ?_⟩
    refine hte _ _ _ _ g.pen (by omega) fun d H'' d0 d1 g2 => ?_
    have hD2 : H'' D = some (.lst (ivs ns)) := g2.kp.lst (hP.free hD).1 hL
    refine ⟨_, hD2, by rw [ivs_len, hl]; exact szl (by omega), ns ++ [d], ?_, ?_, by rw [List.length_append, hl]; rfl, fun z hz => ?_⟩
    · exact Go.mut hP hD ((g.trans g2).mono (by omega))
    · rw [upd_same]
      unfold ivs
      rw [List.map_append]
      rfl
    · rcases List.mem_append.mp hz with hz | hz
      · exact hb z hz
      · rw [List.mem_singleton.mp hz]
        exact ⟨d0, d1⟩
  · rintro H' ⟨ns, g, hL, hl, hb⟩
    exact k D H' ns hD g hL hl hb
end Af

set_option Elab.async false
set_option linter.all false
set_option maxRecDepth 100000
namespace Af
open PySem L2
/-! things of any kind, and what they are -/
def tyNames : List String := ["NoneType", "bool", "int", "str", "list", "tuple", "dict"]
def clNames : List String := ["int", "bool", "tuple", "list", "dict", "str"]
def isB (n c : String) : Bool := n == c || (n == "bool" && c == "int")
theorem kit_all : ∀ n ∈ tyNames, ∀ c ∈ clNames, kitB n c = some (isB n c) := by decide +kernel
structure Ty (K : PySem.W.Frag) (H : Hp) (x : V) (n : String) : Prop where
  ty : TyOf K H x (.type n)
  mem : n ∈ tyNames
  nf : ∀ a o u, x = .ref a → H a ≠ some (.frz o u)
def rIsi' (K : PySem.W.Frag) : List V → Hp → VK → Prop := fun xs H Q => ∃ x n c, xs = [x, .ty c] ∧ Ty K H x n ∧ c ∈ clNames ∧ Q (.bl (isB n c)) H
theorem call_isi' {X : Cx} : CallR X (.builtin "isinstance") (rIsi' X.K) := call_imp call_isi fun xs H Q h => by
  obtain ⟨x, n, c, e, t, hc, q⟩ := h
  exact ⟨x, .ty c, _, _, _, e, .ty c, .base t.ty, kit_ty (kit_all n t.mem c hc), q⟩
theorem tyof_at {K : PySem.W.Frag} {H : Hp} {a : Addr} {n : String} (t : TyOf K H (.ref a) (.type n)) : ∃ o, H a = some o := by
  cases t with
  | lst e => exact ⟨_, e⟩
  | frz e => exact ⟨_, e⟩
  | tup e => exact ⟨_, e⟩
  | dK e => exact ⟨_, e⟩
  | dT e => exact ⟨_, e⟩
theorem Ty.same {K : PySem.W.Frag} {H H' : Hp} {x : V} {n : String} (s : Same H H') (t : Ty K H x n) : Ty K H' x n := by
  obtain ⟨t, m, nf⟩ := t
  refine ⟨?_, m, fun a o u e z => ?_⟩
  · cases t with
    | non => exact .non
    | bl b => exact .bl b
    | int i => exact .int i
    | str z => exact .str z
    | lst e => exact .lst (s _ _ e)
    | frz e => exact .frz (s _ _ e)
    | tup e => exact .tup (s _ _ e)
    | dK e => exact .dK (s _ _ e)
    | dT e => exact .dT (s _ _ e)
    | flt z => exact .flt z
  · subst e
    obtain ⟨o', ho⟩ := tyof_at t
    rw [s _ _ ho] at z
    exact nf a o u rfl (ho.trans z)
theorem ty_int {K : PySem.W.Frag} {H : Hp} {x : V} {n : String} (t : Ty K H x n) (h : n = "int") : ∃ i, x = .int i := by
  obtain ⟨t, _, nf⟩ := t
  generalize e : Value.type n = v at t
  subst h
  cases t with
  | int i => exact ⟨i, rfl⟩
  | ins => cases e
  | _ => exact absurd (by injection e) (by decide)
theorem ty_tup {K : PySem.W.Frag} {H : Hp} {x : V} {n : String} (t : Ty K H x n) (h : n = "tuple") : ∃ a xs, x = .ref a ∧ H a = some (.tup xs) := by
  obtain ⟨t, _, nf⟩ := t
  generalize e : Value.type n = v at t
  subst h
  cases t with
  | tup z => exact ⟨_, _, rfl, z⟩
  | ins => cases e
  | _ => exact absurd (by injection e) (by decide)
theorem ty_lst {K : PySem.W.Frag} {H : Hp} {x : V} {n : String} (t : Ty K H x n) (h : n = "list") : ∃ a xs, x = .ref a ∧ H a = some (.lst xs) := by
  obtain ⟨t, _, nf⟩ := t
  generalize e : Value.type n = v at t
  subst h
  cases t with
  | lst z => exact ⟨_, _, rfl, z⟩
  | frz z => exact absurd z (nf _ _ _ rfl)
  | ins => cases e
  | _ => exact absurd (by injection e) (by decide)
theorem no_int {K : PySem.W.Frag} {H : Hp} {x : V} {n : String} (t : Ty K H x n) (h : n ≠ "int") : ∀ i, x ≠ .int i := fun i e => by
  subst e
  cases t.ty with
  | int i => exact h rfl
theorem no_tup {K : PySem.W.Frag} {H : Hp} {x : V} {n : String} (t : Ty K H x n) (h : n ≠ "tuple") : ∀ a xs, x = .ref a → H a ≠ some (.tup xs) := fun a xs e z => by
  subst e
  cases t.ty with
  | tup e => exact h rfl
  | lst e => rw [e] at z; cases z
  | frz e => rw [e] at z; cases z
  | dK e => rw [e] at z; cases z
  | dT e => rw [e] at z; cases z
/-- a thing whose parts are things, to a depth -/
def Th (K : PySem.W.Frag) (H : Hp) : Nat → V → Prop
  | 0, x => ∃ n, Ty K H x n
  | d + 1, x => (∃ n, Ty K H x n) ∧ ∀ a xs, x = .ref a → (H a = some (.tup xs) ∨ H a = some (.lst xs)) → xs.length ≤ 100000 ∧ ∀ y ∈ xs, Th K H d y
theorem Th.ty {K : PySem.W.Frag} {H : Hp} : ∀ {d : Nat} {x : V}, Th K H d x → ∃ n, Ty K H x n
  | 0, _, h => h
  | _ + 1, _, h => h.1
theorem ty_at {K : PySem.W.Frag} {H : Hp} {a : Addr} {n : String} (t : Ty K H (.ref a) n) : ∃ o, H a = some o := tyof_at t.ty
theorem Th.same {K : PySem.W.Frag} {H H' : Hp} (s : Same H H') : ∀ {d : Nat} {x : V}, Th K H d x → Th K H' d x
  | 0, _, ⟨n, h⟩ => ⟨n, h.same s⟩
  | d + 1, x, ⟨⟨n, h⟩, k⟩ => ⟨⟨n, h.same s⟩, fun a xs e z => by
    subst e
    obtain ⟨o, ho⟩ := ty_at h
    have e' := s _ _ ho
    have z' : H a = some (.tup xs) ∨ H a = some (.lst xs) := by
      rcases z with z | z
      · rw [e'] at z
        rw [ho]
        exact .inl z
      · rw [e'] at z
        rw [ho]
        exact .inr z
    exact ⟨(k a xs rfl z').1, fun y hy => ((k a xs rfl z').2 y hy).same s⟩⟩
theorem th_int {K : PySem.W.Frag} {H : Hp} {i : Int} : ∀ {d : Nat}, Th K H d (.int i)
  | 0 => ⟨"int", .int i, by decide, fun _ _ _ e => by cases e⟩
  | _ + 1 => ⟨⟨"int", .int i, by decide, fun _ _ _ e => by cases e⟩, fun a xs e => by cases e⟩
theorem th_non {K : PySem.W.Frag} {H : Hp} : ∀ {d : Nat}, Th K H d .non
  | 0 => ⟨"NoneType", .non, by decide, fun _ _ _ e => by cases e⟩
  | _ + 1 => ⟨⟨"NoneType", .non, by decide, fun _ _ _ e => by cases e⟩, fun a xs e => by cases e⟩
theorem th_tup {K : PySem.W.Frag} {H : Hp} {a : Addr} {xs : List V} (e : H a = some (.tup xs)) (hl : xs.length ≤ 100000) : ∀ {d : Nat}, (∀ y ∈ xs, Th K H d y) → Th K H (d + 1) (.ref a) := fun {d} k =>
  ⟨⟨"tuple", .tup e, by decide, fun b o u z h => by cases z; rw [e] at h; cases h⟩, fun b ys z h => by
    cases z
    rcases h with h | h
    · rw [e] at h
      cases h
      exact ⟨hl, k⟩
    · rw [e] at h
      cases h⟩
theorem th_lst {K : PySem.W.Frag} {H : Hp} {a : Addr} {xs : List V} (e : H a = some (.lst xs)) (hl : xs.length ≤ 100000) : ∀ {d : Nat}, (∀ y ∈ xs, Th K H d y) → Th K H (d + 1) (.ref a) := fun {d} k =>
  ⟨⟨"list", .lst e, by decide, fun b o u z h => by cases z; rw [e] at h; cases h⟩, fun b ys z h => by
    cases z
    rcases h with h | h
    · rw [e] at h
      cases h
    · rw [e] at h
      cases h
      exact ⟨hl, k⟩⟩
/-! what the program's questions answer -/
def idxB (m : Int) : V → Bool
  | .int i => decide (0 ≤ i) && decide (i < m)
  | _ => false
def widthB : V → Bool
  | .int i => decide (1 ≤ i) && decide (i ≤ 24)
  | _ => false
def worthsB (H : Hp) : V → Bool
  | .ref a => match H a with
    | some (.tup xs) => !xs.isEmpty && xs.all (idxB 8)
    | _ => false
  | _ => false
def lenB (H : Hp) : V → Nat
  | .ref a => match H a with
    | some (.tup xs) => xs.length
    | some (.lst xs) => xs.length
    | _ => 0
  | _ => 0
def contentB (H : Hp) (x : V) : Bool := worthsB H x && decide (lenB H x ≤ 24)
def addB (m : Int) (n : Nat) : V → Bool
  | .int i => decide (i + (n : Int) ≤ m)
  | _ => false
def stepB (H : Hp) (m : Int) : V → Bool
  | .non => true
  | .ref a => match H a with
    | some (.tup [f, ws]) => idxB m f && worthsB H ws && addB m (lenB H ws) f
    | _ => false
  | _ => false
def stepsB (H : Hp) (m : Int) : V → Bool
  | .ref a => match H a with
    | some (.lst xs) => xs.all (stepB H m)
    | _ => false
  | _ => false
theorem worths_at {H : Hp} {a : Addr} {xs : List V} (h : H a = some (.tup xs)) : worthsB H (.ref a) = (!xs.isEmpty && xs.all (idxB 8)) := by
  unfold worthsB
  simp only [h]
theorem len_at {H : Hp} {a : Addr} {xs : List V} (h : H a = some (.tup xs)) : lenB H (.ref a) = xs.length := by
  unfold lenB
  simp only [h]
theorem worths_not {K : PySem.W.Frag} {H : Hp} {x : V} {n : String} (t : Ty K H x n) (h : n ≠ "tuple") : worthsB H x = false := by
  have z := no_tup t h
  cases x with
  | ref a =>
    cases e : H a with
    | none => simp only [worthsB, e]
    | some o =>
      cases o with
      | tup xs => exact absurd e (z a xs rfl)
      | _ => simp only [worthsB, e]
  | _ => rfl
theorem worths_same {K : PySem.W.Frag} {H H' : Hp} {x : V} {n : String} (t : Ty K H x n) (s : Same H H') : worthsB H' x = worthsB H x := by
  cases x with
  | ref a =>
    obtain ⟨o, ho⟩ := ty_at t
    simp only [worthsB, ho, s _ _ ho]
  | _ => rfl
theorem len_same {K : PySem.W.Frag} {H H' : Hp} {x : V} {n : String} (t : Ty K H x n) (s : Same H H') : lenB H' x = lenB H x := by
  cases x with
  | ref a =>
    obtain ⟨o, ho⟩ := ty_at t
    simp only [lenB, ho, s _ _ ho]
  | _ => rfl
theorem worths_true {H : Hp} {x : V} (h : worthsB H x = true) : ∃ a xs, x = .ref a ∧ H a = some (.tup xs) ∧ xs ≠ [] ∧ xs.all (idxB 8) = true := by
  cases x with
  | ref a =>
    cases e : H a with
    | none => simp only [worthsB, e] at h; cases h
    | some o =>
      cases o with
      | tup xs =>
        rw [worths_at e, Bool.and_eq_true] at h
        refine ⟨a, xs, rfl, e, fun z => ?_, h.2⟩
        rw [z] at h
        exact absurd h.1 (by decide)
      | _ => simp only [worthsB, e] at h; cases h
  | _ => cases h
theorem int_one : ∀ n ∈ tyNames, isB n "int" = true → (!isB n "bool") = decide (n = "int") := by decide +kernel
theorem int_two : ∀ n ∈ tyNames, isB n "int" = false → decide (n = "int") = false := by decide +kernel
theorem tup_not : ∀ n ∈ tyNames, n ≠ "tuple" → isB n "tuple" = false := by decide +kernel
theorem lst_not : ∀ n ∈ tyNames, n ≠ "list" → isB n "list" = false := by decide +kernel
theorem idx_not {m : Int} {x : V} (h : ∀ i, x ≠ .int i) : idxB m x = false := by
  cases x with
  | int i => exact absurd rfl (h i)
  | _ => rfl
theorem width_not {x : V} (h : ∀ i, x ≠ .int i) : widthB x = false := by
  cases x with
  | int i => exact absurd rfl (h i)
  | _ => rfl
theorem ty_is_lst {K : PySem.W.Frag} {H : Hp} {a : Addr} {n : String} {xs : List V} (t : Ty K H (.ref a) n) (e : H a = some (.lst xs)) : n = "list" := by
  obtain ⟨t, m, nf⟩ := t
  cases t with
  | lst z => rfl
  | frz z => exact absurd z (nf _ _ _ rfl)
  | tup z => rw [e] at z; cases z
  | dK z => rw [e] at z; cases z
  | dT z => rw [e] at z; cases z
theorem step_same {K : PySem.W.Frag} {H H' : Hp} {x : V} {m : Int} (th : Th K H 2 x) (s : Same H H') : stepB H' m x = stepB H m x := by
  cases x with
  | ref a =>
    obtain ⟨n, t⟩ := th.ty
    obtain ⟨o, ho⟩ := ty_at t
    have ho' := s _ _ ho
    cases o with
    | tup xs =>
      match xs, ho, ho' with
      | [], ho, ho' => simp only [stepB, ho, ho']
      | [_], ho, ho' => simp only [stepB, ho, ho']
      | [f, ws], ho, ho' =>
        obtain ⟨n2, t2⟩ := ((th.2 a _ rfl (.inl ho)).2 ws (List.mem_cons_of_mem _ List.mem_cons_self)).ty
        simp only [stepB, ho, ho']
        rw [worths_same t2 s, len_same t2 s]
      | _ :: _ :: _ :: _, ho, ho' => simp only [stepB, ho, ho']
    | _ => simp only [stepB, ho, ho']
  | _ => rfl
end Af

set_option Elab.async false
set_option linter.all false
set_option maxRecDepth 100000
namespace Af
open PySem L2
/-! a comprehension over zip, a for over enumerate, lists that stand still -/
theorem lc_zip {K : PySem.W.Frag} {a b : Addr} {xs ys : List V} {g : TG} {tt : TT} {te : TE} {vs : List Nat} {σ : L2.St} {H1 : Hp} {D : Addr} {Qd : Hp → Prop} (hl : xs.length = ys.length) (Pv : Nat → Hp → Prop)
    (h0 : Pv 0 (upd H1 D (.lst [])))
    (hq : ∀ i H, i ≤ xs.length → Pv i H → SqL K H a xs ∧ SqL K H b ys)
    (hs : ∀ (i : Nat) (x y : V) (T : Addr) (H : Hp), xs[i]? = some x → ys[i]? = some y → Pv i H → H T = none → g (.ref T) (wipe σ vs) (upd H T (.tup [x, y])) fun σ2 H2 => wipe σ2 vs = wipe σ vs ∧ tt σ2 H2 fun b H3 =>
      if b = true then te σ2 H3 fun y H4 => ∃ acc, H4 D = some (.lst acc) ∧ acc.length < sizeLine ∧ Pv (i + 1) (upd H4 D (.lst (acc ++ [y]))) else Pv (i + 1) H3)
    (hd : ∀ H, Pv xs.length H → Qd H) :
    ∃ W : Nat → Nat → Hp → Prop, (∃ m, W 0 m (upd H1 D (.lst []))) ∧ ∀ i m H, W i m H →
      ((Itz K a b).stop i H ∧ Qd H) ∨ ((Itz K a b).go i H ∧ ∃ Nx : Hp → Prop, (∀ H', Nx H' → ∃ m', m' < m ∧ W (i + 1) m' H') ∧ ∀ x H', (Itz K a b).yld i H x H' → g x (wipe σ vs) H' fun σ2 H2 => wipe σ2 vs = wipe σ vs ∧ tt σ2 H2 fun b H3 =>
        if b = true then te σ2 H3 fun y H4 => ∃ acc, H4 D = some (.lst acc) ∧ acc.length < sizeLine ∧ Nx (upd H4 D (.lst (acc ++ [y]))) else Nx H3) := by
  refine ⟨fun i m H => m = xs.length - i ∧ i ≤ xs.length ∧ Pv i H, ⟨xs.length, rfl, Nat.zero_le _, h0⟩, fun i m H z => ?_⟩
  obtain ⟨em, hi, p⟩ := z
  subst em
  obtain ⟨q1, q2⟩ := hq i H hi p
  by_cases hlt : i < xs.length
  · have hlt2 : i < ys.length := hl ▸ hlt
    refine .inr ⟨⟨xs, ys, xs[i], ys[i], q1, q2, List.getElem?_eq_getElem hlt, List.getElem?_eq_getElem hlt2⟩, Pv (i + 1), fun H' p' => ⟨xs.length - (i + 1), by omega, rfl, hlt, p'⟩, fun v H' y => ?_⟩
    obtain ⟨T, x, y', e1, hT, e2, hx, hy⟩ := y
    subst e1 e2
    exact hs i x y' T H (hx xs q1) (hy ys q2) p hT
  · have e : i = xs.length := Nat.le_antisymm hi (Nat.le_of_not_lt hlt)
    subst e
    exact .inl ⟨⟨xs, ys, q1, q2, .inl (Nat.le_refl _)⟩, hd H p⟩
theorem for_enum {K : PySem.W.Frag} {a : Addr} {xs : List V} {g : TG} {tb : TS} {D : Ends} {σ : L2.St} {H : Hp} (Pv : Nat → L2.St → Hp → Prop) (h0 : Pv 0 σ H)
    (hq : ∀ i σ H, i ≤ xs.length → Pv i σ H → SqL K H a xs)
    (hs : ∀ (i : Nat) (x : V) (T : Addr) (σ : L2.St) (H : Hp), xs[i]? = some x → Pv i σ H → H T = none → g (.ref T) σ (upd H T (.tup [.int (i : Nat), x])) fun σ2 H2 => tb { D with nx := Pv (i + 1), ct := Pv (i + 1), bk := D.nx } σ2 H2)
    (hd : ∀ σ H, Pv xs.length σ H → D.nx σ H) :
    ∃ W : Nat → Nat → L2.St → Hp → Prop, (∃ m, W 0 m σ H) ∧ ∀ i m σ H, W i m σ H →
      ((Ite K a).stop i H ∧ D.nx σ H) ∨ ((Ite K a).go i H ∧ ∃ N : L2.St → Hp → Prop, (∀ σ' H', N σ' H' → ∃ m', m' < m ∧ W (i + 1) m' σ' H') ∧ ∀ v H', (Ite K a).yld i H v H' → g v σ H' fun σ2 H2 => tb { D with nx := N, ct := N, bk := D.nx } σ2 H2) := by
  refine ⟨fun i m σ H => m = xs.length - i ∧ i ≤ xs.length ∧ Pv i σ H, ⟨xs.length, rfl, Nat.zero_le _, h0⟩, fun i m σ H z => ?_⟩
  obtain ⟨em, hi, p⟩ := z
  subst em
  have q1 := hq i σ H hi p
  by_cases hlt : i < xs.length
  · refine .inr ⟨⟨xs, xs[i], q1, List.getElem?_eq_getElem hlt⟩, Pv (i + 1), fun σ' H' p' => ⟨xs.length - (i + 1), by omega, rfl, hlt, p'⟩, fun v H' y => ?_⟩
    obtain ⟨T, x, e1, hT, e2, hx⟩ := y
    subst e1 e2
    exact hs i x T σ H (hx xs q1) p hT
  · have e : i = xs.length := Nat.le_antisymm hi (Nat.le_of_not_lt hlt)
    subst e
    exact .inl ⟨⟨xs, q1, Nat.le_refl _⟩, hd σ H p⟩
theorem int_at {ns : List Int} {i : Nat} {x : V} (h : (ivs ns)[i]? = some x) : ∃ z, x = .int z := by
  unfold ivs at h
  rw [List.getElem?_map] at h
  cases e : ns[i]? with
  | none =>
    rw [e] at h
    cases h
  | some z =>
    rw [e] at h
    exact ⟨z, (Option.some.inj h).symm⟩
end Af

set_option Elab.async false
set_option linter.all false
set_option maxRecDepth 100000
namespace Af
open PySem PySem.Spec PyProof.Rows L2
/-! steps and plans as data, equal or not -/
def stepD : Stp → PyData
  | none => .none
  | some (f, ws) => .tuple [.int f, .tuple (dvs ws)]
def stepsD : List Stp → List PyData
  | [] => []
  | a :: r => stepD a :: stepsD r
theorem dp_step {K : PySem.W.Frag} {H : Hp} : ∀ {x : V} {st : Stp}, StepV H x st → Dp K H x (stepD st)
  | _, none, h => by
    have e : _ = V.non := h
    subst e
    exact .non
  | _, some (f, ws), h => by
    obtain ⟨a, b, rfl, h1, h2⟩ := h
    exact .tup (SqT.of h1) (.cons (.int f) (.cons (.tup (SqT.of h2) (dp_ints ws)) .nil))
theorem dp_steps {K : PySem.W.Frag} {H : Hp} : ∀ {xs : List V} {sts : List Stp}, Paired (StepV H) xs sts → DpAll K H xs (stepsD sts)
  | _, _, .nil => .nil
  | _, _, .cons h t => .cons (dp_step h) (dp_steps t)
theorem lay_step : ∀ st : Stp, (stepD st).canLay0 = true ∧ (stepD st).depth ≤ 2
  | none => ⟨rfl, by decide⟩
  | some (f, ws) => by
    refine ⟨?_, ?_⟩
    · show (PyData.canLay0 (.int f) && (PyData.canLayAll0 (dvs ws) && true)) = true
      rw [lay_ints]
      rfl
    · show max (PyData.depth (.int f)) (max (PyData.depthAll (dvs ws) + 1) 0) + 1 ≤ 2
      rw [deep_ints]
      show max 0 (max (0 + 1) 0) + 1 ≤ 2
      decide
theorem lay_steps : ∀ sts : List Stp, PyData.canLayAll0 (stepsD sts) = true ∧ PyData.depthAll (stepsD sts) ≤ 2
  | [] => ⟨rfl, by decide⟩
  | a :: r => by
    obtain ⟨h1, h2⟩ := lay_step a
    obtain ⟨h3, h4⟩ := lay_steps r
    refine ⟨?_, ?_⟩
    · show (PyData.canLay0 (stepD a) && PyData.canLayAll0 (stepsD r)) = true
      rw [h1, h3]
      rfl
    · show max (PyData.depth (stepD a)) (PyData.depthAll (stepsD r)) ≤ 2
      omega
theorem sh_ints (ns : List Int) : SeqAt.shaped (.tuple (dvs ns)) = true := by
  show (PyData.canLayAll0 (dvs ns) && decide (PyData.depthAll (dvs ns) + 1 ≤ 64)) = true
  rw [lay_ints, deep_ints]
  rfl
theorem sh_int (n : Int) : SeqAt.shaped (.int n) = true := rfl
theorem sh_steps (sts : List Stp) : SeqAt.shaped (.list (stepsD sts)) = true := by
  obtain ⟨h1, h2⟩ := lay_steps sts
  show (PyData.canLayAll0 (stepsD sts) && decide (PyData.depthAll (stepsD sts) + 1 ≤ 64)) = true
  rw [h1, decide_eq_true (by omega)]
  rfl
def planD (pl : Pl) : PyData := .tuple [.tuple (dvs pl.cs), .int pl.w, .list (stepsD pl.sts)]
theorem sh_plan (pl : Pl) : SeqAt.shaped (planD pl) = true := by
  obtain ⟨h1, h2⟩ := lay_steps pl.sts
  show ((PyData.canLayAll0 (dvs pl.cs) && (true && (PyData.canLayAll0 (stepsD pl.sts) && true))) && decide (max (PyData.depthAll (dvs pl.cs) + 1) (max 0 (max (PyData.depthAll (stepsD pl.sts) + 1) 0)) + 1 ≤ 64)) = true
  rw [h1, lay_ints, deep_ints, decide_eq_true (by omega)]
  rfl
theorem dp_plan {K : PySem.W.Frag} {H : Hp} {p : Addr} {v : V} {pl : Pl} (h : PlanV p H v pl) : Dp K H v (planD pl) := by
  obtain ⟨a, ca, sa, xs, rfl, h1, h2, _, h3, h4⟩ := h.ex
  exact .tup (SqT.of h1) (.cons (.tup (SqT.of h2) (dp_ints _)) (.cons (.int _) (.cons (.lst (SqL.of h3) (dp_steps h4)) .nil)))
/-- what == of two plans is -/
def samePl (a b : Pl) : Bool := PyData.eqv (.tuple (dvs a.cs)) (.tuple (dvs b.cs)) && (PyData.eqv (.int a.w) (.int b.w) && PyData.eqv (.list (stepsD a.sts)) (.list (stepsD b.sts)))
theorem same_planD (a b : Pl) : PyData.eqv (planD a) (planD b) = samePl a b := by
  show (PyData.eqv (.tuple (dvs a.cs)) (.tuple (dvs b.cs)) && (PyData.eqv (.int a.w) (.int b.w) && (PyData.eqv (.list (stepsD a.sts)) (.list (stepsD b.sts)) && true))) = _
  rw [Bool.and_true]
  rfl
mutual
theorem eqv_comm : ∀ a b : PyData, PyData.eqv a b = PyData.eqv b a
  | .none, b => by cases b <;> rfl
  | .bool x, b => by
    cases b with
    | bool y => cases x <;> cases y <;> rfl
    | int j =>
      show ((if x = true then (1 : Int) else 0) == j) = (j == (if x = true then (1 : Int) else 0))
      exact BEq.comm
    | _ => rfl
  | .int x, b => by
    cases b with
    | int y =>
      show (x == y) = (y == x)
      exact BEq.comm
    | bool y =>
      show (x == (if y = true then (1 : Int) else 0)) = ((if y = true then (1 : Int) else 0) == x)
      exact BEq.comm
    | _ => rfl
  | .str x, b => by
    cases b with
    | str y =>
      show (x == y) = (y == x)
      exact BEq.comm
    | _ => rfl
  | .list xs, b => by
    cases b with
    | list ys => exact eqvAll_comm xs ys
    | _ => rfl
  | .tuple xs, b => by
    cases b with
    | tuple ys => exact eqvAll_comm xs ys
    | _ => rfl
  | .dict xs, b => by cases b <;> rfl
theorem eqvAll_comm : ∀ xs ys : List PyData, PyData.eqvAll xs ys = PyData.eqvAll ys xs
  | [], [] => rfl
  | [], _ :: _ => rfl
  | _ :: _, [] => rfl
  | x :: xs, y :: ys => by
    show (PyData.eqv x y && PyData.eqvAll xs ys) = (PyData.eqv y x && PyData.eqvAll ys xs)
    rw [eqv_comm x y, eqvAll_comm xs ys]
end
theorem same_comm (a b : Pl) : samePl a b = samePl b a := by
  rw [← same_planD, ← same_planD]
  exact eqv_comm _ _
theorem same_refl (a : Pl) : samePl a a = true := by
  rw [← same_planD]
  have := sh_plan a
  exact PySem.SeqAt.eqv_refl _ (Bool.and_eq_true_iff.mp this).1
/-! xs.count(None) -/
def rCntN (K : PySem.W.Frag) : V → List V → Hp → VK → Prop := fun x xs H Q => ∃ (p : Addr) (ys : List V) (ds : List PyData), x = .ref p ∧ xs = [.non] ∧ SqL K H p ys ∧ DpAll K H ys ds ∧ PyData.canLayAll0 ds = true ∧ ∀ n : Nat, Q (.int (n : Nat)) H
theorem mt_countN {X : Cx} (hu : X.A.units + 1 < cLine) : MtR X "list.count" (rCntN X.K) := by
  intro pins s σ H x xs v us Q I rx rxs h
  obtain ⟨p, ys, ds, rfl, rfl, hs, hd, hl, q⟩ := h
  cases (show v = Value.ref p from rx)
  obtain ⟨u, rfl, ru⟩ := rxs.one
  cases (show u = Value.none from ru)
  obtain ⟨its, rv, pl, _⟩ := I.list hs
  obtain ⟨as, rs⟩ := Dp.readsAll I ds ys its hd rv
  refine PySem.SeqAt.count_list_data (d := .none) (vs := its.toArray) pl.isList (by simpa using rs) Reads.none (PyData.plainAll_of_canLay0 _ hl) rfl (by show X.A.units + 1 + min _ 0 < cLine; omega) ?_
  exact ⟨.int (ds.countP (fun y => PyData.eqv y .none) : Nat), H, I.tok _, ⟨_, rfl⟩, q _⟩
/-! xs[::-1] -/
theorem pe_up {X : Cx} {e : Expr} {te : TE} (he : PE X e te) : PE X e (fun σ H R => ∃ R0 : VK, te σ H R0 ∧ ∀ x H1, R0 x H1 → R x H1) := ⟨fun pins s σ H R I q => by
  obtain ⟨R0, q1, q2⟩ := q
  refine thn (he.run pins s σ H R0 I q1) fun v s1 z => ?_
  obtain ⟨x, H1, I1, r1, q⟩ := z
  exact ⟨x, H1, I1, r1, q2 _ _ q⟩⟩
theorem pe_rev' {X : Cx} {e : Expr} {te : TE} {k : Nat} {p1 p2 p3 pos : Pos} (he : PE X e te) : PE X (.Subscript e (.Slice none none (some (.UnaryOp .USub (.Constant (.int 1) k p1) p2)) p3) pos) (tRev' te) := by
  have h := pe_revL (p1 := p1) (p2 := p2) (p3 := p3) (pos := pos) (k := k) (pe_up he)
  refine ⟨fun pins s σ H Q I q => h.run pins s σ H Q I ⟨_, q, fun x H1 z => ?_⟩⟩
  obtain ⟨a, xs, e, ha, q⟩ := z
  exact ⟨a, xs, e, SqL.of ha, q.mk⟩
end Af

set_option Elab.async false
set_option linter.all false
set_option maxRecDepth 100000
namespace Af
/-! a write broken into pieces: cell by cell (as the law does it), and by the cuts (as the program does it) -/
def spl (w : Int) : Int → List Int → Int → List Int → List (Int × List Int)
  | st, acc, _, [] => [(st, acc)]
  | st, acc, pos, x :: r => if acc ≠ [] ∧ pos % w = 0 then (st, acc) :: spl w pos [x] (pos + 1) r else spl w st (acc ++ [x]) (pos + 1) r
/-- the cuts among n cells from pos on -/
def cutL (w : Int) : Int → Nat → List Int
  | _, 0 => []
  | pos, n + 1 => if pos % w = 0 then pos :: cutL w (pos + 1) n else cutL w (pos + 1) n
/-- the part from s to e of the worths that begin at the cell f -/
def part (f : Int) (W : List Int) (s e : Int) : List Int := (W.drop (s - f).toNat).take ((e - f).toNat - (s - f).toNat)
def byCuts (f : Int) (W : List Int) : Int → List Int → Int → List (Int × List Int)
  | s, [], e => [(s, part f W s e)]
  | s, c :: cs, e => (s, part f W s c) :: byCuts f W c cs e
theorem zip_cuts (f : Int) (W : List Int) : ∀ (s : Int) (cs : List Int) (e : Int), ((s :: cs).zip (cs ++ [e])).map (fun p => (p.1, part f W p.1 p.2)) = byCuts f W s cs e
  | s, [], e => rfl
  | s, c :: cs, e => by
    show (s, part f W s c) :: ((c :: cs).zip (cs ++ [e])).map (fun p => (p.1, part f W p.1 p.2)) = (s, part f W s c) :: byCuts f W c cs e
    rw [zip_cuts f W c cs e]
theorem part_mid {f : Int} {pre acc r : List Int} {s e : Int} (hs : s = f + (pre.length : Int)) (he : e = s + (acc.length : Int)) : part f (pre ++ (acc ++ r)) s e = acc := by
  have e1 : (s - f).toNat = pre.length := by omega
  have e2 : (e - f).toNat - (s - f).toNat = acc.length := by omega
  unfold part
  rw [e2, e1, List.drop_left, List.take_left]
theorem spl_cuts {w f : Int} : ∀ (r pre acc : List Int) (st pos : Int), acc ≠ [] → st = f + (pre.length : Int) → pos = st + (acc.length : Int) →
    spl w st acc pos r = byCuts f (pre ++ (acc ++ r)) st (cutL w pos r.length) (pos + (r.length : Int))
  | [], pre, acc, st, pos, ne, hs, hp => by
    show [(st, acc)] = [(st, part f (pre ++ (acc ++ [])) st (pos + 0))]
    rw [part_mid hs (by omega)]
  | x :: r, pre, acc, st, pos, ne, hs, hp => by
    have le : (((x :: r).length : Nat) : Int) = (r.length : Int) + 1 := by rw [List.length_cons]; rfl
    by_cases c : pos % w = 0
    · have ih := spl_cuts (w := w) (f := f) r (pre ++ acc) [x] pos (pos + 1) (by simp) (by rw [List.length_append]; omega) (by show pos + 1 = pos + ((1 : Nat) : Int); omega)
      have e : (pre ++ acc) ++ ([x] ++ r) = pre ++ (acc ++ (x :: r)) := by simp
      rw [e] at ih
      show (if acc ≠ [] ∧ pos % w = 0 then (st, acc) :: spl w pos [x] (pos + 1) r else spl w st (acc ++ [x]) (pos + 1) r) = byCuts f (pre ++ (acc ++ (x :: r))) st (if pos % w = 0 then pos :: cutL w (pos + 1) r.length else cutL w (pos + 1) r.length) _
      rw [if_pos ⟨ne, c⟩, if_pos c, ih, le, show pos + ((r.length : Int) + 1) = pos + 1 + (r.length : Int) by omega]
      show _ = (st, part f (pre ++ (acc ++ (x :: r))) st pos) :: _
      rw [part_mid hs hp]
    · have ih := spl_cuts (w := w) r pre (acc ++ [x]) st (pos + 1) (by simp) hs (by rw [List.length_append]; show pos + 1 = st + ((acc.length + 1 : Nat) : Int); omega)
      have e : pre ++ ((acc ++ [x]) ++ r) = pre ++ (acc ++ (x :: r)) := by simp
      rw [e] at ih
      show (if acc ≠ [] ∧ pos % w = 0 then (st, acc) :: spl w pos [x] (pos + 1) r else spl w st (acc ++ [x]) (pos + 1) r) = byCuts f (pre ++ (acc ++ (x :: r))) st (if pos % w = 0 then pos :: cutL w (pos + 1) r.length else cutL w (pos + 1) r.length) _
      rw [if_neg (fun z => c z.2), if_neg c, ih, le, show pos + ((r.length : Int) + 1) = pos + 1 + (r.length : Int) by omega]
/-- both ways lead to the same pieces -/
theorem pieces_same {w f : Int} {ws : List Int} (ne : ws ≠ []) : spl w f [] f ws = byCuts f ws f (cutL w (f + 1) (ws.length - 1)) (f + (ws.length : Int)) := by
  cases ws with
  | nil => exact absurd rfl ne
  | cons x r =>
    have h := spl_cuts (w := w) (f := f) r [] [x] f (f + 1) (by simp) (by show f = f + ((0 : Nat) : Int); omega) (by show f + 1 = f + ((1 : Nat) : Int); omega)
    show (if ([] : List Int) ≠ [] ∧ f % w = 0 then _ else spl w f ([] ++ [x]) (f + 1) r) = _
    rw [if_neg (fun z => z.1 rfl)]
    have e : (((x :: r).length : Nat) : Int) = (r.length : Int) + 1 := by rw [List.length_cons]; rfl
    rw [e, show f + ((r.length : Int) + 1) = f + 1 + (r.length : Int) by omega]
    exact h
end Af

set_option Elab.async false
set_option linter.all false
set_option maxRecDepth 100000
namespace Af
open PySem L2
/-- a drawn plan whose list of steps is neither the pen's nor the one at l -/
structure PlanL (p l : Addr) (H : Hp) (v : V) (pl : Pl) : Prop where
  ex : ∃ a ca sa xs, v = .ref a ∧ H a = some (.tup [.ref ca, .int pl.w, .ref sa]) ∧ H ca = some (.tup (ivs pl.cs)) ∧ sa ≠ p ∧ sa ≠ l ∧ H sa = some (.lst xs) ∧ Paired (StepV H) xs pl.sts
theorem PlanL.v {p l : Addr} {H : Hp} {v : V} {pl : Pl} (h : PlanL p l H v pl) : PlanV p H v pl := by
  obtain ⟨a, ca, sa, xs, e, h1, h2, n, _, h3, h4⟩ := h.ex
  exact ⟨a, ca, sa, xs, e, h1, h2, n, h3, h4⟩
theorem PlanV.toL {p l : Addr} {H H' : Hp} {v : V} {pl : Pl} (h : PlanV p H v pl) (n : H l = none) (s : Same H H') : PlanL p l H' v pl := by
  obtain ⟨a, ca, sa, xs, e, h1, h2, np, h3, h4⟩ := h.ex
  exact ⟨a, ca, sa, xs, e, s _ _ h1, s _ _ h2, np, ne_of_none h3 n, s _ _ h3, steps_same s h4⟩
theorem PlanL.same {p l : Addr} {H H' : Hp} {v : V} {pl : Pl} (h : PlanL p l H v pl) (s : Same H H') : PlanL p l H' v pl := by
  obtain ⟨a, ca, sa, xs, e, h1, h2, np, nl, h3, h4⟩ := h.ex
  exact ⟨a, ca, sa, xs, e, s _ _ h1, s _ _ h2, np, nl, s _ _ h3, steps_same s h4⟩
theorem kp_upd {l : Addr} {H : Hp} {ys zs : List V} (e : H l = some (.lst ys)) : Kp l H (L2.upd H l (.lst zs)) := fun a o n k => by
  by_cases z : a = l
  · rcases n with n | n
    · exact absurd z n
    · rw [z, e] at k
      exact absurd (Option.some.inj k).symm (n ys)
  · rw [upd_ne z]
    exact k
theorem PlanL.upd {p l : Addr} {H : Hp} {v : V} {pl : Pl} {ys zs : List V} (h : PlanL p l H v pl) (e : H l = some (.lst ys)) : PlanL p l (L2.upd H l (.lst zs)) v pl := by
  have k := kp_upd (zs := zs) e
  obtain ⟨a, ca, sa, xs, e, h1, h2, np, nl, h3, h4⟩ := h.ex
  exact ⟨a, ca, sa, xs, e, k.tup h1, k.tup h2, np, nl, k.lst nl h3, steps_kp k h4⟩
/-- a list of plans that the program takes -/
def PlansL (p l : Addr) (H : Hp) (vs : List V) : Prop := ∀ v ∈ vs, ∃ pl, PlanL p l H v pl ∧ Good 40 40 pl
def Plans (p : Addr) (H : Hp) (vs : List V) : Prop := ∀ v ∈ vs, ∃ pl, PlanV p H v pl ∧ Good 40 40 pl
theorem Plans.toL {p l : Addr} {H H' : Hp} {vs : List V} (h : Plans p H vs) (n : H l = none) (s : Same H H') : PlansL p l H' vs := fun v hv => by
  obtain ⟨pl, h1, h2⟩ := h v hv
  exact ⟨pl, h1.toL n s, h2⟩
theorem PlansL.v {p l : Addr} {H : Hp} {vs : List V} (h : PlansL p l H vs) : Plans p H vs := fun v hv => by
  obtain ⟨pl, h1, h2⟩ := h v hv
  exact ⟨pl, h1.v, h2⟩
theorem PlansL.same {p l : Addr} {H H' : Hp} {vs : List V} (h : PlansL p l H vs) (s : Same H H') : PlansL p l H' vs := fun v hv => by
  obtain ⟨pl, h1, h2⟩ := h v hv
  exact ⟨pl, h1.same s, h2⟩
theorem PlansL.upd {p l : Addr} {H : Hp} {vs ys zs : List V} (h : PlansL p l H vs) (e : H l = some (.lst ys)) : PlansL p l (L2.upd H l (.lst zs)) vs := fun v hv => by
  obtain ⟨pl, h1, h2⟩ := h v hv
  exact ⟨pl, h1.upd e, h2⟩
theorem PlansL.app {p l : Addr} {H : Hp} {vs us : List V} (h : PlansL p l H vs) (k : PlansL p l H us) : PlansL p l H (vs ++ us) := fun v hv => by
  rcases List.mem_append.mp hv with hv | hv
  · exact h v hv
  · exact k v hv
theorem PlansL.one {p l : Addr} {H : Hp} {v : V} {pl : Pl} (h : PlanL p l H v pl) (g : Good 40 40 pl) : PlansL p l H [v] := fun u hu => by
  rw [List.mem_singleton.mp hu]
  exact ⟨pl, h, g⟩
theorem Plans.nil {p : Addr} {H : Hp} : Plans p H [] := fun v hv => by simp at hv
theorem Plans.app {p : Addr} {H : Hp} {vs us : List V} (h : Plans p H vs) (k : Plans p H us) : Plans p H (vs ++ us) := fun v hv => by
  rcases List.mem_append.mp hv with hv | hv
  · exact h v hv
  · exact k v hv
theorem Plans.cons {p : Addr} {H : Hp} {v : V} {vs : List V} {pl : Pl} (h : PlanV p H v pl) (g : Good 40 40 pl) (k : Plans p H vs) : Plans p H (v :: vs) := fun u hu => by
  rcases List.mem_cons.mp hu with rfl | hu
  · exact ⟨pl, h, g⟩
  · exact k u hu
theorem Plans.same {p : Addr} {H H' : Hp} {vs : List V} (h : Plans p H vs) (s : Same H H') : Plans p H' vs := fun v hv => by
  obtain ⟨pl, h1, h2⟩ := h v hv
  exact ⟨pl, h1.same s, h2⟩
/-- a plan changed at one place -/
theorem Good.cells {pl : Pl} {cs : List Int} (g : Good 40 40 pl) (c1 : pl.cs.length ≤ cs.length) (c2 : cs.length ≤ 24) (cb : ∀ z ∈ cs, 0 ≤ z ∧ z < 8) : Good 40 40 ⟨cs, pl.w, pl.sts⟩ := by
  refine ⟨Nat.le_trans g.c1 c1, c2, cb, g.w1, g.w24, fun x hx => ?_, g.sl, g.tl⟩
  have o := g.st x hx
  cases x with
  | none => exact True.intro
  | some fw =>
    obtain ⟨f, ws⟩ := fw
    obtain ⟨o1, o2, o3, o4⟩ := o
    exact ⟨o1, o2, by show f + (ws.length : Int) ≤ (cs.length : Int); omega, o4⟩
theorem Good.width {pl : Pl} {w : Int} (g : Good 40 40 pl) (h1 : 1 ≤ w) (h2 : w ≤ 24) : Good 40 40 ⟨pl.cs, w, pl.sts⟩ := ⟨g.c1, g.c24, g.cb, h1, h2, g.st, g.sl, g.tl⟩
theorem Good.steps {s t : Nat} {pl : Pl} {sts : List Stp} (g : Good s t pl) (h : ∀ x ∈ sts, OkS pl.cs.length x) (h1 : sts.length ≤ 40) (h2 : tot sts ≤ 40) : Good 40 40 ⟨pl.cs, pl.w, sts⟩ := ⟨g.c1, g.c24, g.cb, g.w1, g.w24, h, h1, h2⟩
theorem tot_drop_le (l : List Stp) (n : Nat) : tot (l.drop n) ≤ tot l := by
  have := tot_take_drop l n
  omega
/-- one step taken out, another one put in its place -/
theorem steps_at {l : List Stp} {i : Nat} {a b : Stp} {n : Nat} (hi : l[i]? = some a) (hb : stl b = stl a) (ob : OkS n b) (ok : ∀ x ∈ l, OkS n x) :
    (∀ x ∈ (l.take i ++ [b]) ++ l.drop (i + 1), OkS n x) ∧ ((l.take i ++ [b]) ++ l.drop (i + 1)).length = l.length ∧ tot ((l.take i ++ [b]) ++ l.drop (i + 1)) = tot l := by
  have hlt : i < l.length := (List.getElem?_eq_some_iff.mp hi).1
  have e : l.drop i = a :: l.drop (i + 1) := by
    rw [List.drop_eq_getElem_cons hlt]
    congr 1
    rw [List.getElem?_eq_getElem hlt] at hi
    exact Option.some.inj hi
  refine ⟨fun x hx => ?_, ?_, ?_⟩
  · rcases List.mem_append.mp hx with hx | hx
    · rcases List.mem_append.mp hx with hx | hx
      · exact ok x (List.mem_of_mem_take hx)
      · rw [List.mem_singleton.mp hx]
        exact ob
    · exact ok x (List.mem_of_mem_drop hx)
  · rw [List.length_append, List.length_append, List.length_take, List.length_drop]
    show min i l.length + 1 + (l.length - (i + 1)) = l.length
    omega
  · rw [tot_app, tot_app, tot_one, hb]
    have t := tot_take_drop l i
    rw [e, tot_cons] at t
    omega
end Af

set_option Elab.async false
set_option linter.all false
set_option maxRecDepth 100000
namespace Af
open PySem L2
abbrev s_l_split : Stmt := top 67
abbrev N_l_split : List Str := ["_law_index", "_law_step_here", "_law_span_here", "_law_first", "_law_worths_here", "_law_found", "_law_some_here", "_law_k"]
theorem sc_l_split : FnScope N_l_split ["_law_index", "_law_step_here", "_law_span_here"] (defScope s_l_split) := ⟨rfl, rfl, rfl, by decide +kernel, rfl, by decide +kernel, by decide +kernel⟩

abbrev s_l_parts : Stmt := top 68
abbrev N_l_parts : List Str := ["_law_plan_here", "_law_found", "_law_index"]
theorem sc_l_parts : FnScope N_l_parts ["_law_plan_here"] (defScope s_l_parts) := ⟨rfl, rfl, rfl, by decide +kernel, rfl, by decide +kernel, by decide +kernel⟩

abbrev s_l_write : Stmt := top 70
abbrev N_l_write : List Str := ["_law_pen_here", "_law_many", "_law_kinds", "_law_longest_row", "_law_first", "_law_more", "_law_k"]
theorem sc_l_write : FnScope N_l_write ["_law_pen_here", "_law_many", "_law_kinds", "_law_longest_row"] (defScope s_l_write) := ⟨rfl, rfl, rfl, by decide +kernel, rfl, by decide +kernel, by decide +kernel⟩

/-- a piece: the step that it is of, its first cell, its worths -/
def PieceE (H : Hp) (ix : Int) (x : V) (p : Int × List Int) : Prop := ∃ t b, x = .ref t ∧ H t = some (.tup [.int ix, .int p.1, .ref b]) ∧ H b = some (.tup (ivs p.2))
theorem PieceE.kp {q : Addr} {H H' : Hp} {ix : Int} {x : V} {p : Int × List Int} (k : Kp q H H') (h : PieceE H ix x p) : PieceE H' ix x p := by
  obtain ⟨t, b, e, h1, h2⟩ := h
  exact ⟨t, b, e, k.tup h1, k.tup h2⟩
theorem pieces_kp {q : Addr} {H H' : Hp} {ix : Int} {xs : List V} {ps : List (Int × List Int)} (k : Kp q H H') (h : Paired (PieceE H ix) xs ps) : Paired (PieceE H' ix) xs ps := L2.Paired.mapP h fun _ _ z => z.kp k
theorem pieces_st {H H' : Hp} {ix : Int} {xs : List V} {ps : List (Int × List Int)} (k : Same H H') (h : Paired (PieceE H ix) xs ps) : Paired (PieceE H' ix) xs ps := pieces_kp (q := 0) (Kp.same k) h
theorem spl_go {w st pos x : Int} {acc r : List Int} (c : ¬ (acc ≠ [] ∧ pos % w = 0)) : spl w st acc pos (x :: r) = spl w st (acc ++ [x]) (pos + 1) r := by
  show (if acc ≠ [] ∧ pos % w = 0 then _ else _) = _
  rw [if_neg c]
theorem spl_cut {w st pos x : Int} {acc r : List Int} (c : acc ≠ [] ∧ pos % w = 0) : spl w st acc pos (x :: r) = (st, acc) :: spl w pos [x] (pos + 1) r := by
  show (if acc ≠ [] ∧ pos % w = 0 then _ else _) = _
  rw [if_pos c]
def sp_split : Sp := fun vs H Q _ => ∃ (ix f sp : Int) (a b : Addr) (ws : List Int), vs = [.int ix, .ref a, .int sp] ∧ H a = some (.tup [.int f, .ref b]) ∧ H b = some (.tup (ivs ws)) ∧ 0 < sp ∧ ws.length ≤ 1000 ∧
  ∀ l H' xs, Same H H' → H l = none → H' l = some (.lst xs) → Paired (PieceE H' ix) xs (spl sp f [] f ws) → Q (.ref l) H'
section
variable {P : Program} {w : World} {K : PySem.W.Frag} {mg : Str → Option Value} {base : Heap}
theorem ok_split {f : Addr} {fd : FuncData} (F : Fun K "_law_split" "_law_split" s_l_split f fd) (T : Txt mg) : FnOk P w K mg base CX0 1 f fd ["_law_index", "_law_step_here", "_law_span_here"] sp_split := by
  refine F.ok sc_l_split (fun vs H Q E h => ?_) (fun cdv A outer s H vs Q E hr h => ?_)
  · obtain ⟨_, _, _, _, _, _, rfl, _⟩ := h
    rfl
  obtain ⟨ix, f, sp, a, b, ws, rfl, ha, hb, hsp, hws, k⟩ := h
  refine ⟨_, (pss_cons (ps_asg (pv 1) (pg_tup rfl (pgs_cons (pg_name (i := 3) sc_l_split.nd rfl (Or.inl rfl)) (pgs_cons (pg_name (i := 4) sc_l_split.nd rfl (Or.inl rfl)) pgs_nil))))
    (pss_cons (ps_par (i := 5) (j := 6) rfl sc_l_split.nd rfl rfl (by decide) rfl rfl (pa_cons (pe_lst' pa_nil) (pa_cons (pe_lst' pa_nil) pa_nil)) (by rfl))
    (pss_cons (ps_for PassesOwn.never rfl (pi_range1 rfl T.range (pa_cons (pe_callB call_len' (by rfl) T.len (by decide +kernel) (pa_cons (pv 4) pa_nil)) pa_nil)) (pg_name (i := 7) sc_l_split.nd rfl (Or.inl rfl))
      (pss_cons (ps_cut (ps_if (PW.pt (pw_and (pt_cmpR (op_neNil hr.units) (pv 6) (pe_lst' pa_nil) (nomark _)) (pw_and1 (pt_cmpR op_eq (pe_op op_mod (pe_callTy call_int1 (by rfl) T.int (by decide +kernel) (pa_cons (pe_op op_add (pv 3) (pv 7)) pa_nil)) (pv 2)) pe_int (nomark _)))))
      (pss_cons (ps_expr (pe_bm PySem.F.plainAttrs_list PySem.F.slot_list_append PySem.F.type_list_append mt_append (pv 5) (pa_cons (pe_tup' (pa_cons (pv 0) (pa_cons (pe_op op_sub (pe_op op_add (pv 3) (pv 7)) (pe_callB call_len' (by rfl) T.len (by decide +kernel) (pa_cons (pv 6) pa_nil))) (pa_cons (pe_callTy call_tuple' (by rfl) T.tuple (by decide +kernel) (pa_cons (pv 6) pa_nil)) pa_nil)))) pa_nil)))
    (pss_one (ps_set (i := 6) sc_l_split.nd rfl (Or.inl rfl) (pe_lst' pa_nil))))
      pss_nil))
    (pss_one (ps_expr (pe_bm PySem.F.plainAttrs_list PySem.F.slot_list_append PySem.F.type_list_append mt_append (pv 6) (pa_cons (pe_ix ix_seq' (pv 4) (pv 7) (fun _ _ => rfl)) pa_nil))))))
    (pss_one (ps_ret (pe_op op_cat' (pv 5) (pe_lst' (pa_cons (pe_tup' (pa_cons (pv 0) (pa_cons (pe_op op_sub (pe_op op_add (pv 3) (pe_callB call_len' (by rfl) T.len (by decide +kernel) (pa_cons (pv 4) pa_nil))) (pe_callB call_len' (by rfl) T.len (by decide +kernel) (pa_cons (pv 6) pa_nil))) (pa_cons (pe_callTy call_tuple' (by rfl) T.tuple (by decide +kernel) (pa_cons (pv 6) pa_nil)) pa_nil)))) pa_nil)))))))), ?_⟩
  refine ⟨_, rfl, a, _, rfl, SqT.of ha, rfl, _, _, rfl, _, _, rfl, rfl, ?_⟩
  refine ⟨szr, fun fl H1 hfl s1 h1 => ⟨szr, fun sl H2 hsl s2 h2 => ⟨_, _, rfl, ?_⟩⟩⟩
  have b2 := s2 _ _ (s1 _ _ hb)
  refine ⟨_, rfl, b, _, rfl, .inr b2, _, rfl, ?_, ?_, ?_⟩
  · omega
  · rw [ivs_len]
    omega
  refine for_range (lo := 0) (fun i σ' H' => ∃ sl xs ss kv out, σ' = [some (.int ix), some (.ref a), some (.int sp), some (.int f), some (.ref b), some (.ref fl), some (.ref sl), kv] ∧ Same H H' ∧ H sl = none ∧ sl ≠ fl ∧ H' fl = some (.lst xs) ∧ H' sl = some (.lst (ivs ss)) ∧ xs.length ≤ i ∧ ss.length ≤ i ∧
    Paired (PieceE H' ix) xs out ∧ out ++ spl sp (f + (i : Int) - (ss.length : Int)) ss (f + (i : Int)) (ws.drop i) = spl sp f [] f ws) ?_ ?_ ?_
  · refine ⟨sl, [], [], none, [], rfl, s1.trans s2, s1.free hsl, nofree h1 hsl, s2 _ _ h1, h2, Nat.le_refl _, Nat.le_refl _, .nil, ?_⟩
    show spl sp (f + 0 - 0) [] (f + 0) ws = spl sp f [] f ws
    rw [Int.add_zero, Int.sub_zero]
  · rintro i σ' H' hi ⟨sl, xs, ss, kv, out, rfl, s3, hsl, ns, h3, h4, l1, l2, pr, tot⟩
    have hi' : i < ws.length := by
      have e : ((ivs ws).length : Int).toNat = ws.length := by rw [ivs_len]; omega
      omega
    rw [List.drop_eq_getElem_cons hi'] at tot
    have b3 := s3 _ _ hb
    refine ⟨fun σ' H' => ∃ sl xs ss out, σ' = [some (.int ix), some (.ref a), some (.int sp), some (.int f), some (.ref b), some (.ref fl), some (.ref sl), some (.int (0 + (i : Int)))] ∧ Same H H' ∧ H sl = none ∧ sl ≠ fl ∧ H' fl = some (.lst xs) ∧ H' sl = some (.lst (ivs ss)) ∧ xs.length ≤ i + 1 ∧ ss.length ≤ i ∧
      Paired (PieceE H' ix) xs out ∧ out ++ spl sp (f + (i : Int) - (ss.length : Int)) (ss ++ [ws[i]]) (f + (i : Int) + 1) (ws.drop (i + 1)) = spl sp f [] f ws, ?_, ?_⟩
    · refine ⟨_, rfl, szr, fun e H5 he s5 h5 => ?_⟩
      have k3 := s5 _ _ h3
      have k4 := s5 _ _ h4
      have s6 := s3.trans s5
      have no : ¬ (ss ≠ [] ∧ (f + (i : Int)) % sp = 0) → ∃ sl' xs' ss' out', [some (V.int ix), some (.ref a), some (.int sp), some (.int f), some (.ref b), some (.ref fl), some (.ref sl), some (.int (0 + (i : Int)))] = [some (.int ix), some (.ref a), some (.int sp), some (.int f), some (.ref b), some (.ref fl), some (.ref sl'), some (.int (0 + (i : Int)))] ∧ Same H H5 ∧ H sl' = none ∧ sl' ≠ fl ∧ H5 fl = some (.lst xs') ∧ H5 sl' = some (.lst (ivs ss')) ∧ xs'.length ≤ i + 1 ∧ ss'.length ≤ i ∧
          Paired (PieceE H5 ix) xs' out' ∧ out' ++ spl sp (f + (i : Int) - (ss'.length : Int)) (ss' ++ [ws[i]]) (f + (i : Int) + 1) (ws.drop (i + 1)) = spl sp f [] f ws :=
        fun c => ⟨sl, xs, ss, out, rfl, s6, hsl, ns, k3, k4, by omega, l2, pieces_st s5 pr, by rw [← spl_go c]; exact tot⟩
      have e0 : (0 : Int) + (i : Int) = (i : Int) := Int.zero_add _
      refine ⟨sl, e, ss, rfl, rfl, k4, h5, _, rfl, ite2 (fun c1 => ?_) (fun c1 => iteF (no fun z => ?_))⟩
      rotate_left
      · cases ss with
        | nil => exact z.1 rfl
        | cons y ys => exact c1 rfl
      have ne : ss ≠ [] := fun z => by
        rw [z] at c1
        exact absurd c1 (by decide)
      refine ⟨_, rfl, _, rfl, _, _, rfl, rfl, .inl ⟨_, rfl, _, rfl, _, _, rfl, rfl, hsp, rfl, _, rfl, ite2 (fun c2 => ?_) (fun c2 => no fun z => ?_)⟩⟩
      rotate_left
      · exact c2 (decide_eq_true (by show V.int ((f + (0 + (i : Int))) % sp) = V.int 0; rw [e0, z.2]))
      have cut : (f + (i : Int)) % sp = 0 := by
        have z := V.int.inj (of_decide_eq_true c2)
        rw [e0] at z
        exact z
      refine ⟨_, rfl, .inl ⟨rfl, _, SqL.of k3⟩, ?_⟩
      refine ⟨_, rfl, _, rfl, _, rfl, _, _, rfl, rfl, _, rfl, sl, _, rfl, .inl k4, _, _, rfl, rfl, _, rfl, sl, _, rfl, .inl k4, fun tp H7 s7 h7 => ?_⟩
      refine ⟨szr, fun t H8 ht s8 h8 => ?_⟩
      have k5 := s8 _ _ (s7 _ _ k3)
      refine ⟨fl, xs, _, rfl, rfl, k5, szl (by omega), ?_⟩
      have s9 : Same H (upd H8 fl (.lst (xs ++ [V.ref t]))) := same_mut (s6.trans (s7.trans s8)) hfl
      refine ⟨szr, fun nl H9 hnl s10 h10 => ?_⟩
      have kk := kp_upd (zs := xs ++ [V.ref t]) k5
      have pp : Paired (PieceE H9 ix) (xs ++ [V.ref t]) (out ++ [(f + (i : Int) - (ss.length : Int), ss)]) := by
        refine paired_app (pieces_st s10 (pieces_kp kk (pieces_st (s5.trans (s7.trans s8)) pr))) (.cons ⟨t, tp, rfl, ?_, s10 _ _ (kk.tup (s8 _ _ h7))⟩ .nil)
        rw [s10 _ _ (kk.tup h8), e0, ivs_len]
      refine ⟨nl, xs ++ [V.ref t], [], _, rfl, s9.trans s10, s9.free hnl, nofree upd_same hnl, s10 _ _ upd_same, h10, by rw [List.length_append]; show xs.length + 1 ≤ i + 1; omega, Nat.zero_le _, pp, ?_⟩
      rw [spl_cut ⟨ne, cut⟩] at tot
      show (out ++ [(f + (i : Int) - (ss.length : Int), ss)]) ++ spl sp (f + (i : Int) - 0) [ws[i]] (f + (i : Int) + 1) (ws.drop (i + 1)) = _
      rw [Int.sub_zero, List.append_assoc]
      exact tot
    · rintro σ' H' ⟨sl, xs, ss, out, rfl, s3, hsl, ns, h3, h4, l1, l2, pr, tot⟩
      have b3 := s3 _ _ hb
      refine ⟨_, rfl, .inl ⟨rfl, _, SqL.of h4⟩, ?_⟩
      refine ⟨_, rfl, _, rfl, b, _, _, _, rfl, rfl, .inr b3, at_of (Int.zero_add _) (ivs_get hi'), ?_⟩
      refine ⟨sl, ivs ss, _, rfl, rfl, h4, szl (by rw [ivs_len]; omega), ?_⟩
      have kk := kp_upd (zs := ivs ss ++ [V.int ws[i]]) h4
      refine ⟨sl, xs, ss ++ [ws[i]], _, out, rfl, same_mut s3 hsl, hsl, ns, by rw [upd_ne ns.symm]; exact h3, ?_, l1, by rw [List.length_append]; show ss.length + 1 ≤ i + 1; omega, pieces_kp kk pr, ?_⟩
      · rw [upd_same]
        unfold ivs
        rw [List.map_append]
        rfl
      · have e1 : f + ((i + 1 : Nat) : Int) - ((ss ++ [ws[i]]).length : Int) = f + (i : Int) - (ss.length : Int) := by
          rw [List.length_append]
          show f + ((i + 1 : Nat) : Int) - ((ss.length + 1 : Nat) : Int) = _
          omega
        have e2 : f + ((i + 1 : Nat) : Int) = f + (i : Int) + 1 := by omega
        rw [e1, e2]
        exact tot
  · rintro σ' H' ⟨sl, xs, ss, kv, out, rfl, s3, hsl, ns, h3, h4, l1, l2, pr, tot⟩
    have e : ((ivs ws).length : Int).toNat = ws.length := by rw [ivs_len]; omega
    rw [e] at l1 l2 tot
    rw [List.drop_length] at tot
    have b3 := s3 _ _ hb
    refine ⟨_, rfl, _, rfl, _, rfl, _, rfl, b, _, rfl, .inr b3, _, _, rfl, rfl, _, rfl, sl, _, rfl, .inl h4, _, _, rfl, rfl, _, rfl, sl, _, rfl, .inl h4, fun tp H7 s7 h7 => ?_⟩
    refine ⟨szr, fun t H8 ht s8 h8 => ⟨szr, fun nl H9 hnl s9 h9 => ?_⟩⟩
    have s10 := s7.trans (s8.trans s9)
    refine ⟨fl, nl, _, _, rfl, rfl, s10 _ _ h3, h9, sz (by show xs.length + 1 ≤ 100000; omega), fun r H10 hr2 s11 h11 => ?_⟩
    refine k r H10 _ (s3.trans (s10.trans s11)) ((s3.trans s10).free hr2) h11 ?_
    rw [← tot]
    refine paired_app (pieces_st (s10.trans s11) pr) (.cons ⟨t, tp, rfl, ?_, s11 _ _ (s9 _ _ (s8 _ _ h7))⟩ .nil)
    rw [s11 _ _ (s9 _ _ h8), ivs_len, ivs_len]
end
end Af

set_option Elab.async false
set_option linter.all false
set_option maxRecDepth 100000
namespace Af
open PySem L2
theorem cutL_snoc (w : Int) : ∀ (n : Nat) (pos : Int), cutL w pos (n + 1) = cutL w pos n ++ (if (pos + (n : Int)) % w = 0 then [pos + (n : Int)] else [])
  | 0, pos => by
    show (if pos % w = 0 then pos :: cutL w (pos + 1) 0 else cutL w (pos + 1) 0) = [] ++ (if (pos + ((0 : Nat) : Int)) % w = 0 then [pos + ((0 : Nat) : Int)] else [])
    rw [show pos + ((0 : Nat) : Int) = pos by omega]
    rfl
  | n + 1, pos => by
    have ih := cutL_snoc w n (pos + 1)
    have e : pos + 1 + (n : Int) = pos + ((n + 1 : Nat) : Int) := by omega
    rw [e] at ih
    show (if pos % w = 0 then pos :: cutL w (pos + 1) (n + 1) else cutL w (pos + 1) (n + 1)) = (if pos % w = 0 then pos :: cutL w (pos + 1) n else cutL w (pos + 1) n) ++ _
    rw [ih]
    by_cases c : pos % w = 0
    · rw [if_pos c, if_pos c]
      rfl
    · rw [if_neg c, if_neg c]
theorem cutL_in {w : Int} : ∀ {n : Nat} {pos z : Int}, z ∈ cutL w pos n → pos ≤ z ∧ z < pos + (n : Int)
  | 0, pos, z, h => by cases h
  | n + 1, pos, z, h => by
    have k : z = pos ∨ z ∈ cutL w (pos + 1) n := by
      by_cases c : pos % w = 0
      · rw [show cutL w pos (n + 1) = pos :: cutL w (pos + 1) n from if_pos c] at h
        exact List.mem_cons.mp h
      · rw [show cutL w pos (n + 1) = cutL w (pos + 1) n from if_neg c] at h
        exact .inr h
    rcases k with rfl | k
    · omega
    · have := cutL_in k
      omega
theorem cutL_len {w : Int} : ∀ (n : Nat) (pos : Int), (cutL w pos n).length ≤ n
  | 0, _ => Nat.le_refl 0
  | n + 1, pos => by
    have ih := cutL_len (w := w) n (pos + 1)
    by_cases c : pos % w = 0
    · rw [show cutL w pos (n + 1) = pos :: cutL w (pos + 1) n from if_pos c, List.length_cons]
      omega
    · rw [show cutL w pos (n + 1) = cutL w (pos + 1) n from if_neg c]
      omega
/-- the slice of the program is that part -/
theorem slice_part {f s e : Int} {ws : List Int} (h1 : f ≤ s) (h2 : f ≤ e) (h3 : s ≤ f + (ws.length : Int)) (h4 : e ≤ f + (ws.length : Int)) : cutV (ivs ws) (some (s - f)) (some (e - f)) = ivs (part f ws s e) := by
  obtain ⟨a, ha⟩ := Int.eq_ofNat_of_zero_le (show 0 ≤ s - f by omega)
  obtain ⟨b, hb⟩ := Int.eq_ofNat_of_zero_le (show 0 ≤ e - f by omega)
  unfold cutV part
  rw [ha, hb, HT.sIx_nat, HT.sIx_nat, ivs_len, Nat.min_eq_left (by omega), Nat.min_eq_left (by omega)]
  show ((ivs ws).drop a).take (b - a) = ivs ((ws.drop (a : Int).toNat).take ((b : Int).toNat - (a : Int).toNat))
  rw [Int.toNat_natCast, Int.toNat_natCast]
  unfold ivs
  rw [List.map_take, List.map_drop]
end Af

set_option Elab.async false
set_option linter.all false
set_option maxRecDepth 100000
set_option maxHeartbeats 4000000
namespace Af
open PySem L2
abbrev s_broken : Stmt := top 27
abbrev N_broken : List Str := ["width", "index", "write", "first", "worths", "behind", "cuts", "starts", "ends", "cell", "start", "end"]
theorem sc_broken : FnScope N_broken ["width", "index", "write"] (defScope s_broken) := ⟨rfl, rfl, rfl, by decide +kernel, rfl, by decide +kernel, by decide +kernel⟩

theorem paired_take_succ {α β : Type} {F : α → β → Prop} {a : List α} {b : List β} {i : Nat} {y : β} (h : Paired F a (b.take i)) (x : α) (hx : F x y) (hb : b[i]? = some y) : Paired F (a ++ [x]) (b.take (i + 1)) := by
  rw [List.take_add_one, hb]
  exact paired_app h (.cons hx .nil)
def sp_brokenX : Sp := fun vs H Q _ => ∃ (wd ix f : Int) (t b : Addr) (ws : List Int), vs = [.int wd, .int ix, .ref t] ∧ H t = some (.tup [.int f, .ref b]) ∧ H b = some (.tup (ivs ws)) ∧ 0 < wd ∧ 0 ≤ f ∧ f ≤ 1000 ∧ ws ≠ [] ∧ ws.length ≤ 100 ∧
  ∀ l H' xs, Same H H' → H l = none → H' l = some (.lst xs) → Paired (PieceE H' ix) xs (spl wd f [] f ws) → Q (.ref l) H'
section
variable {P : Program} {w : World} {K : PySem.W.Frag} {mg : Str → Option Value} {base : Heap}
theorem ok_brokenX {f : Addr} {fd : FuncData} (F : Fun K "_broken" "_broken" s_broken f fd) (T : Txt mg) : FnOk P w K mg base CX0 1 f fd ["width", "index", "write"] sp_brokenX := by
  refine F.ok sc_broken (fun vs H Q E h => ?_) (fun cdv A outer s H vs Q E hr h => ?_)
  · obtain ⟨_, _, _, _, _, _, rfl, _⟩ := h
    rfl
  obtain ⟨wd, ix, f, t, b, ws, rfl, ht, hb, w0, f0, f1, wn, wl, k⟩ := h
  refine ⟨_, (pss_cons (ps_asg (pv 2) (pg_tup rfl (pgs_cons (pg_name (i := 3) sc_broken.nd rfl (Or.inr rfl)) (pgs_cons (pg_name (i := 4) sc_broken.nd rfl (Or.inr rfl)) pgs_nil))))
    (pss_cons (ps_set (i := 5) sc_broken.nd rfl (Or.inl rfl) (pe_op op_add (pv 3) (pe_callB call_len' (by rfl) T.len (by decide +kernel) (pa_cons (pv 4) pa_nil))))
    (pss_cons (ps_setLc (i := 6) (own := [("cell", 9)]) (g := (gName 9)) rfl sc_broken.nd rfl rfl (sw_true rfl rfl rfl (by decide +kernel)) (pi_range2 rfl T.range (pa_cons (pe_op op_add (pv 3) pe_int) (pa_cons (pv 5) pa_nil))) (blkOk_by (own := [("cell", 9)]) (N := N_broken) (sc := defScope s_broken) (by decide +kernel)) (fun _ _ _ _ _ => pg_name (i := 9) sc_broken.nd rfl (Or.inl rfl)) (fun _ _ _ _ _ => (pts_one (pt_cmpR op_eq (pe_op op_mod (pv 9) (pv 0)) pe_int (nomark _)))) (fun _ _ _ _ _ => (pv 9)))
    (pss_cons (ps_par (i := 7) (j := 8) rfl sc_broken.nd rfl rfl (by decide) rfl rfl (pa_cons (pe_op op_cat' (pe_lst' (pa_cons (pv 3) pa_nil)) (pv 6)) (pa_cons (pe_op op_cat' (pv 6) (pe_lst' (pa_cons (pv 5) pa_nil))) pa_nil)) (by rfl))
    (pss_one (ps_ret (pe_lc (own := [("start", 10), ("end", 11)]) (g := (gTup K 2 (gCons (gName 10) (gCons (gName 11) gNil)))) (tt := tYes) rfl sc_broken.nd (pi_zip rfl T.zip (pa_cons (pv 7) (pa_cons (pv 8) pa_nil))) (blkOk_by (own := [("start", 10), ("end", 11)]) (N := N_broken) (sc := defScope s_broken) (by decide +kernel)) (fun _ _ _ _ _ => pg_tup rfl (pgs_cons (pg_name (i := 10) sc_broken.nd rfl (Or.inl rfl)) (pgs_cons (pg_name (i := 11) sc_broken.nd rfl (Or.inl rfl)) pgs_nil))) (fun _ _ _ _ _ => pts_nil) (fun _ _ _ _ _ => (pe_tup' (pa_cons (pv 1) (pa_cons (pv 10) (pa_cons (pe_slice sl_tup' (pv 4) (po_some (pe_op op_sub (pv 10) (pv 3))) (po_some (pe_op op_sub (pv 11) (pv 3)))) pa_nil)))))))))))), ?_⟩
  refine ⟨_, rfl, t, _, rfl, SqT.of ht, rfl, _, _, rfl, _, _, rfl, rfl, ?_⟩
  refine ⟨_, rfl, _, rfl, b, _, rfl, .inr hb, _, _, rfl, rfl, ?_⟩
  have hln := ivs_len ws
  have hpos : 0 < ws.length := List.length_pos_iff.mpr wn
  refine ⟨_, rfl, _, _, rfl, rfl, _, rfl, f + 1, f + ((ivs ws).length : Int), rfl, ⟨by omega, by omega, by omega, by omega⟩, fun D hD => lc_range (lo := f + 1) (n := (f + ((ivs ws).length : Int) - (f + 1)).toNat) (fun i H' => Same H H' ∧ H' D = some (.lst (ivs (cutL wd (f + 1) i)))) ?_ ?_ ?_⟩
  · exact ⟨same_new hD, upd_same⟩
  · rintro i H' hi ⟨s1, h1⟩
    have sn := cutL_snoc wd i (f + 1)
    have cl := cutL_len (w := wd) i (f + 1)
    refine ⟨rfl, _, rfl, _, rfl, _, _, rfl, rfl, w0, rfl, _, rfl, ite2 (fun y => ?_) (fun y => ⟨s1, ?_⟩)⟩
    · have y' : (f + 1 + (i : Int)) % wd = 0 := V.int.inj (of_decide_eq_true y)
      rw [if_pos y'] at sn
      refine ⟨_, rfl, _, h1, szl (by rw [ivs_len]; omega), same_mut s1 hD, ?_⟩
      rw [upd_same, sn]
      unfold ivs
      rw [List.map_append]
      rfl
    · have y' : ¬ (f + 1 + (i : Int)) % wd = 0 := fun z => y (decide_eq_true (congrArg V.int z))
      rw [if_neg y', List.append_nil] at sn
      rw [sn]
      exact h1
  · rintro H1 ⟨s1, h1⟩
    have en : (f + ((ivs ws).length : Int) - (f + 1)).toNat = ws.length - 1 := by rw [hln]; omega
    rw [en] at h1
    have cin : ∀ z ∈ cutL wd (f + 1) (ws.length - 1), f ≤ z ∧ z ≤ f + (ws.length : Int) := fun z hz => by
      have := cutL_in hz
      omega
    have cl := cutL_len (w := wd) (ws.length - 1) (f + 1)
    have fin := pieces_same (w := wd) (f := f) wn
    rw [← zip_cuts] at fin
    generalize cutL wd (f + 1) (ws.length - 1) = cs at h1 cin cl fin
    refine ⟨_, rfl, szr, fun l2 H2 hl2 s2 h2 => ⟨_, rfl, l2, D, _, _, rfl, rfl, h2, s2 _ _ h1, sz (by show 1 + (ivs cs).length ≤ 100000; rw [ivs_len]; omega), fun sl H3 hsl s3 h3 => ?_⟩⟩
    refine ⟨_, rfl, _, rfl, szr, fun l4 H4 hl4 s4 h4 => ⟨D, l4, _, _, rfl, rfl, s4 _ _ (s3 _ _ (s2 _ _ h1)), h4, sz (by show (ivs cs).length + 1 ≤ 100000; rw [ivs_len]; omega), fun el H5 hel s5 h5 => ⟨_, _, rfl, ?_⟩⟩⟩
    have S := s1.trans (s2.trans (s3.trans (s4.trans s5)))
    have hs5 : H5 sl = some (.lst (ivs (f :: cs))) := s5 _ _ (s4 _ _ h3)
    have he5 : H5 el = some (.lst (ivs (cs ++ [f + (ws.length : Int)]))) := by
      rw [h5, hln]
      unfold ivs
      rw [List.map_append]
      rfl
    have hll : (ivs (f :: cs)).length = (ivs (cs ++ [f + (ws.length : Int)])).length := by
      rw [ivs_len, ivs_len, List.length_append]
      rfl
    refine ⟨_, rfl, _, rfl, sl, el, _, _, rfl, SqL.of hs5, SqL.of he5, fun R hR => lc_zip hll (fun i H' => Same H5 H' ∧ ∃ xs, H' R = some (.lst xs) ∧ xs.length = i ∧ Paired (PieceE H' ix) xs ((((f :: cs).zip (cs ++ [f + (ws.length : Int)])).map (fun p => (p.1, part f ws p.1 p.2))).take i)) ?_ ?_ ?_ ?_⟩
    · exact ⟨same_new hR, [], upd_same, rfl, .nil⟩
    · rintro i H' hi ⟨s6, _⟩
      exact ⟨SqL.of (s6 _ _ hs5), SqL.of (s6 _ _ he5)⟩
    · rintro i x y T' H' hx hy ⟨s6, xs, h6, l6, p6⟩ hT
      have hi : i < (ivs (f :: cs)).length := (List.getElem?_eq_some_iff.mp hx).1
      have hc : (ivs (f :: cs)).length = cs.length + 1 := by rw [ivs_len]; rfl
      have i1 : i < (f :: cs).length := by rw [List.length_cons]; omega
      have i2 : i < (cs ++ [f + (ws.length : Int)]).length := by rw [List.length_append]; show i < cs.length + 1; omega
      rw [ivs_get i1] at hx
      rw [ivs_get i2] at hy
      cases hx
      cases hy
      have m1 : (f :: cs)[i] ∈ f :: cs := List.getElem_mem i1
      have m2 : (cs ++ [f + (ws.length : Int)])[i] ∈ cs ++ [f + (ws.length : Int)] := List.getElem_mem i2
      have zg : (((f :: cs).zip (cs ++ [f + (ws.length : Int)])).map (fun p => (p.1, part f ws p.1 p.2)))[i]? = some ((f :: cs)[i], part f ws (f :: cs)[i] (cs ++ [f + (ws.length : Int)])[i]) := by
        have zz : ((f :: cs).zip (cs ++ [f + (ws.length : Int)]))[i]? = some ((f :: cs)[i], (cs ++ [f + (ws.length : Int)])[i]) := List.getElem?_zip_eq_some.mpr ⟨List.getElem?_eq_getElem i1, List.getElem?_eq_getElem i2⟩
        rw [List.getElem?_map, zz]
        rfl
      generalize (f :: cs)[i] = zx at m1 zg
      generalize (cs ++ [f + (ws.length : Int)])[i] = zy at m2 zg
      have b1 : f ≤ zx ∧ zx ≤ f + (ws.length : Int) := by
        rcases List.mem_cons.mp m1 with rfl | m
        · omega
        · exact cin zx m
      have b2 : f ≤ zy ∧ zy ≤ f + (ws.length : Int) := by
        rcases List.mem_append.mp m2 with m | m
        · exact cin zy m
        · rw [List.mem_singleton.mp m]
          omega
      have s7 : Same H' (upd H' T' (.tup [.int zx, .int zy])) := same_new hT
      have b7 := s7 _ _ (s6 _ _ (S _ _ hb))
      refine ⟨T', _, rfl, SqT.of upd_same, rfl, _, _, rfl, _, _, rfl, rfl, rfl, ?_⟩
      refine ⟨_, rfl, _, rfl, _, rfl, _, rfl, _, rfl, _, _, rfl, rfl, _, rfl, _, rfl, _, rfl, _, _, rfl, rfl, _, rfl, b, _, rfl, b7, fun u H8 s8 h8 => ⟨szr, fun r H9 hr9 s9 h9 => ?_⟩⟩
      have s10 := s7.trans (s8.trans s9)
      have u9 := s9 _ _ h8
      rw [slice_part b1.1 b2.1 b1.2 b2.2] at u9
      have r10 := s10 _ _ h6
      refine ⟨xs, r10, szl (by omega), same_mut (s6.trans s10) hR, _, upd_same, by rw [List.length_append, l6]; rfl, ?_⟩
      have kk := kp_upd (zs := xs ++ [V.ref r]) r10
      exact paired_take_succ (pieces_kp kk (pieces_st s10 p6)) (V.ref r) ⟨r, u, rfl, kk.tup h9, kk.tup u9⟩ zg
    · rintro H' ⟨s6, xs, h6, l6, p6⟩
      refine k R H' xs (S.trans s6) (S.free hR) h6 ?_
      rw [fin]
      have ll : (((f :: cs).zip (cs ++ [f + (ws.length : Int)])).map (fun p => (p.1, part f ws p.1 p.2))).length = (ivs (f :: cs)).length := by
        rw [List.length_map, List.length_zip, List.length_append, ivs_len, List.length_cons]
        show min (cs.length + 1) (cs.length + 1) = cs.length + 1
        omega
      rw [← ll, List.take_length] at p6
      exact p6
end
end Af

set_option Elab.async false
set_option linter.all false
set_option maxRecDepth 100000
set_option maxHeartbeats 4000000
namespace Af
open PySem L2
abbrev s_pieces_of : Stmt := top 26
abbrev N_pieces_of : List Str := ["width", "steps", "pieces", "index", "step"]
theorem sc_pieces_of : FnScope N_pieces_of ["width", "steps"] (defScope s_pieces_of) := ⟨rfl, rfl, rfl, by decide +kernel, rfl, by decide +kernel, by decide +kernel⟩

abbrev s_epochs_of : Stmt := top 28
abbrev N_epochs_of : List Str := ["steps", "epochs", "barriers", "step"]
theorem sc_epochs_of : FnScope N_epochs_of ["steps"] (defScope s_epochs_of) := ⟨rfl, rfl, rfl, by decide +kernel, rfl, by decide +kernel, by decide +kernel⟩

/-- the pieces of one step, of all steps, each with its step's index -/
def oneP (w : Int) (i : Nat) : Stp → List (Int × (Int × List Int))
  | none => []
  | some (f, ws) => (spl w f [] f ws).map fun p => ((i : Int), p)
def allP (w : Int) : Nat → List Stp → List (Int × (Int × List Int))
  | _, [] => []
  | i, s :: r => oneP w i s ++ allP w (i + 1) r
theorem allP_snoc (w : Int) (s : Stp) : ∀ (l : List Stp) (i : Nat), allP w i (l ++ [s]) = allP w i l ++ oneP w (i + l.length) s
  | [], i => by
    show oneP w i s ++ [] = [] ++ oneP w i s
    rw [List.append_nil, List.nil_append]
  | a :: l, i => by
    show oneP w i a ++ allP w (i + 1) (l ++ [s]) = (oneP w i a ++ allP w (i + 1) l) ++ oneP w (i + (l.length + 1)) s
    rw [allP_snoc w s l (i + 1), List.append_assoc, show i + 1 + l.length = i + (l.length + 1) by omega]
theorem allP_take {w : Int} {l : List Stp} {i : Nat} {s : Stp} (h : l[i]? = some s) : allP w 0 (l.take (i + 1)) = allP w 0 (l.take i) ++ oneP w i s := by
  have hi : i < l.length := (List.getElem?_eq_some_iff.mp h).1
  rw [List.take_add_one, h]
  show allP w 0 (l.take i ++ [s]) = _
  rw [allP_snoc, List.length_take, Nat.zero_add, Nat.min_eq_left (Nat.le_of_lt hi)]
def PieceA (H : Hp) (x : V) (p : Int × (Int × List Int)) : Prop := PieceE H p.1 x p.2
theorem pieceA_kp {q : Addr} {H H' : Hp} {xs : List V} {ps : List (Int × (Int × List Int))} (k : Kp q H H') (h : Paired (PieceA H) xs ps) : Paired (PieceA H') xs ps := L2.Paired.mapP h fun _ _ z => PieceE.kp k z
theorem pieceA_st {H H' : Hp} {xs : List V} {ps : List (Int × (Int × List Int))} (k : Same H H') (h : Paired (PieceA H) xs ps) : Paired (PieceA H') xs ps := pieceA_kp (q := 0) (Kp.same k) h
theorem pieceA_of {H : Hp} {ix : Int} : ∀ {xs : List V} {ps : List (Int × List Int)}, Paired (PieceE H ix) xs ps → Paired (PieceA H) xs (ps.map fun p => (ix, p))
  | _, _, .nil => .nil
  | _, _, .cons h t => .cons h (pieceA_of t)
theorem spl_len {w : Int} : ∀ (r acc : List Int) (st pos : Int), (spl w st acc pos r).length ≤ r.length + 1
  | [], _, _, _ => Nat.le_refl _
  | x :: r, acc, st, pos => by
    by_cases c : acc ≠ [] ∧ pos % w = 0
    · rw [spl_cut c, List.length_cons, List.length_cons]
      have := spl_len (w := w) r [x] pos (pos + 1)
      omega
    · rw [spl_go c, List.length_cons]
      have := spl_len (w := w) r (acc ++ [x]) st (pos + 1)
      omega
def sp_partsX : Sp := fun vs H Q _ => ∃ (a ca sa : Addr) (sp : Int) (xs : List V) (sts : List Stp), vs = [.ref a] ∧ H a = some (.tup [.ref ca, .int sp, .ref sa]) ∧ H sa = some (.lst xs) ∧ Paired (StepV H) xs sts ∧ 0 < sp ∧ xs.length ≤ 100 ∧
  (∀ f ws, some (f, ws) ∈ sts → ws.length ≤ 100) ∧ ∀ l H' ys, Same H H' → H l = none → H' l = some (.lst ys) → Paired (PieceA H') ys (allP sp 0 sts) → Q (.ref l) H'
def sp_piecesX : Sp := fun vs H Q _ => ∃ (wd : Int) (a : Addr) (xs : List V) (sts : List Stp), vs = [.int wd, .ref a] ∧ H a = some (.lst xs) ∧ Paired (StepV H) xs sts ∧ 0 < wd ∧ xs.length ≤ 100 ∧ (∀ x ∈ sts, OkS 24 x) ∧
  ∀ l H' ys, Same H H' → H l = none → H' l = some (.lst ys) → Paired (PieceA H') ys (allP wd 0 sts) → Q (.ref l) H'
section
variable {P : Program} {w : World} {K : PySem.W.Frag} {mg : Str → Option Value} {base : Heap}
theorem ok_partsX {f : Addr} {fd : FuncData} (F : Fun K "_law_parts" "_law_parts" s_l_parts f fd) (T : Txt mg) (c_l_split : Cal P w K mg base 1 "_law_split" ["_law_index", "_law_step_here", "_law_span_here"] sp_split) : FnOk P w K mg base CX0 2 f fd ["_law_plan_here"] sp_partsX := by
  refine F.ok sc_l_parts (fun vs H Q E h => ?_) (fun cdv A outer s H vs Q E hr h => ?_)
  · obtain ⟨_, _, _, _, _, _, rfl, _⟩ := h
    rfl
  obtain ⟨a, ca, sa, sp, xs, sts, rfl, ha, hsa, hst, hsp, hxl, hw, k⟩ := h
  refine ⟨_, (pss_cons (ps_set (i := 1) sc_l_parts.nd rfl (Or.inl rfl) (pe_lst' pa_nil))
    (pss_cons (ps_for PassesOwn.never rfl (pi_range1 rfl T.range (pa_cons (pe_callB call_len' (by rfl) T.len (by decide +kernel) (pa_cons (pe_ix ix_seq' (pv 0) pe_int (fun _ _ => rfl)) pa_nil)) pa_nil)) (pg_name (i := 2) sc_l_parts.nd rfl (Or.inl rfl))
      (pss_one (ps_if (pt_cmpR op_notN (pe_ix ix_seq' (pe_ix ix_seq' (pv 0) pe_int (fun _ _ => rfl)) (pv 2) (fun _ _ => rfl)) pe_non (nomark _))
      (pss_one (ps_set (i := 1) sc_l_parts.nd rfl (Or.inl rfl) (pe_op op_cat' (pv 1) (pe_cal c_l_split hr (pa_cons (pv 2) (pa_cons (pe_ix ix_seq' (pe_ix ix_seq' (pv 0) pe_int (fun _ _ => rfl)) (pv 2) (fun _ _ => rfl)) (pa_cons (pe_ix ix_seq' (pv 0) pe_int (fun _ _ => rfl)) pa_nil)))))))
      pss_nil)))
    (pss_one (ps_ret (pv 1))))), ?_⟩
  have hlen := paired_len hst
  refine ⟨szr, fun fl H1 hfl s1 h1 => ?_⟩
  refine ⟨_, rfl, a, _, _, _, rfl, rfl, .inr (s1 _ _ ha), rfl, sa, _, rfl, .inl (s1 _ _ hsa), _, rfl, ?_, ?_, ?_⟩
  · omega
  · omega
  refine for_range (lo := 0) (fun i σ' H' => ∃ fl ys kv, σ' = [some (.ref a), some (.ref fl), kv] ∧ Same H H' ∧ H fl = none ∧ H' fl = some (.lst ys) ∧ ys.length ≤ i * 101 ∧ Paired (PieceA H') ys (allP sp 0 (sts.take i))) ?_ ?_ ?_
  · exact ⟨fl, [], none, rfl, s1, hfl, h1, Nat.zero_le _, .nil⟩
  · rintro i σ' H' hi ⟨fl, ys, kv, rfl, s2, hfl, h2, l1, p2⟩
    have hi' : i < xs.length := by omega
    have hx2 : xs[i]? = some xs[i] := List.getElem?_eq_getElem hi'
    obtain ⟨st, hs1, hs2⟩ := paired_get hst hx2
    have tk := allP_take (w := sp) hs1
    refine ⟨_, rfl, a, _, _, _, rfl, rfl, .inr (s2 _ _ ha), rfl, _, rfl, sa, _, _, _, rfl, rfl, .inl (s2 _ _ hsa), at_of (Int.zero_add _) hx2, rfl, _, rfl, ?_⟩
    cases st with
    | none =>
      have e : xs[i] = V.non := hs2
      rw [e]
      exact ⟨fl, ys, _, rfl, s2, hfl, h2, by omega, by rw [tk]; show Paired _ ys (_ ++ []); rw [List.append_nil]; exact p2⟩
    | some fw =>
      obtain ⟨f, ws⟩ := fw
      obtain ⟨t, b, e, h3, h4⟩ := hs2
      rw [e]
      have hws := hw f ws (List.mem_of_getElem? hs1)
      refine ⟨_, rfl, _, rfl, _, rfl, a, _, _, _, rfl, rfl, .inr (s2 _ _ ha), rfl, _, rfl, sa, _, _, _, rfl, rfl, .inl (s2 _ _ hsa), at_of (Int.zero_add _) (hx2.trans (congrArg some e)), ?_⟩
      refine ⟨_, rfl, a, _, _, _, rfl, rfl, .inr (s2 _ _ ha), rfl, _, f, sp, t, b, ws, rfl, s2 _ _ h3, s2 _ _ h4, hsp, by omega, fun l H3 zs s3 hl h5 p5 => ?_⟩
      have zl : zs.length ≤ 101 := by
        rw [paired_len p5]
        have := spl_len (w := sp) ws [] f f
        omega
      refine ⟨fl, l, _, _, rfl, rfl, s3 _ _ h2, h5, sz (by omega), fun r H4 hr4 s4 h7 => ?_⟩
      rw [Int.zero_add] at p5
      refine ⟨r, ys ++ zs, _, rfl, s2.trans (s3.trans s4), s2.free (s3.free hr4), h7, by rw [List.length_append]; omega, ?_⟩
      rw [tk]
      exact paired_app (pieceA_st (s3.trans s4) p2) (pieceA_st s4 (pieceA_of p5))
  · rintro σ' H' ⟨fl, ys, kv, rfl, s2, hfl, h2, l1, p2⟩
    have e : (xs.length : Int).toNat = sts.length := by rw [← hlen]; exact Int.toNat_natCast _
    first
      | rw [e, List.take_length] at p2
      | rw [hlen, List.take_length] at p2
    exact ⟨_, rfl, k fl H' ys s2 hfl h2 p2⟩
theorem ok_piecesX {f : Addr} {fd : FuncData} (F : Fun K "_pieces_of" "_pieces_of" s_pieces_of f fd) (T : Txt mg) (c_broken : Cal P w K mg base 1 "_broken" ["width", "index", "write"] sp_brokenX) : FnOk P w K mg base CX0 2 f fd ["width", "steps"] sp_piecesX := by
  refine F.ok sc_pieces_of (fun vs H Q E h => ?_) (fun cdv A outer s H vs Q E hr h => ?_)
  · obtain ⟨_, _, _, _, rfl, _⟩ := h
    rfl
  obtain ⟨wd, a, xs, sts, rfl, ha, hst, w0, xl, ok, k⟩ := h
  refine ⟨_, (pss_cons (ps_set (i := 2) sc_pieces_of.nd rfl (Or.inl rfl) (pe_lst' pa_nil))
    (pss_cons (ps_for PassesOwn.never rfl (pi_enum rfl T.enumerate (pa_cons (pv 1) pa_nil)) (pg_tup rfl (pgs_cons (pg_name (i := 3) sc_pieces_of.nd rfl (Or.inl rfl)) (pgs_cons (pg_name (i := 4) sc_pieces_of.nd rfl (Or.inl rfl)) pgs_nil)))
      (pss_one (ps_if (pt_cmpR op_notN (pv 4) pe_non (nomark _))
      (pss_one (ps_expr (pe_bm PySem.F.plainAttrs_list PySem.F.slot_list_extend PySem.F.type_list_extend mt_extend (pv 2) (pa_cons (pe_cal c_broken hr (pa_cons (pv 0) (pa_cons (pv 3) (pa_cons (pv 4) pa_nil)))) pa_nil))))
      pss_nil)))
    (pss_one (ps_ret (pv 2))))), ?_⟩
  refine ⟨szr, fun pl H1 hpl s1 h1 => ?_⟩
  have hlen := paired_len hst
  refine ⟨_, rfl, a, xs, rfl, SqL.of (s1 _ _ ha), for_enum (K := K) (a := a) (xs := xs) (fun i σ' H' => ∃ ys v1 v2, σ' = [some (.int wd), some (.ref a), some (.ref pl), v1, v2] ∧ Same H H' ∧ H' pl = some (.lst ys) ∧ ys.length ≤ i * 25 ∧ Paired (PieceA H') ys (allP wd 0 (sts.take i))) ?_ ?_ ?_ ?_⟩
  · exact ⟨[], none, none, rfl, s1, h1, Nat.zero_le _, .nil⟩
  · rintro i σ' H' hi ⟨ys, v1, v2, rfl, s2, _⟩
    exact SqL.of (s2 _ _ ha)
  · rintro i x T' σ' H' hx ⟨ys, v1, v2, rfl, s2, h2, l2, p2⟩ hT
    have hi : i < xs.length := (List.getElem?_eq_some_iff.mp hx).1
    obtain ⟨st, hs1, hs2⟩ := paired_get hst hx
    have s3 : Same H' (upd H' T' (.tup [.int (i : Nat), x])) := same_new hT
    have tk := allP_take (w := wd) hs1
    refine ⟨T', _, rfl, SqT.of upd_same, rfl, _, _, rfl, _, _, rfl, rfl, ?_⟩
    cases st with
    | none =>
      have e : x = .non := hs2
      subst e
      exact ⟨_, rfl, rfl, _, rfl, ys, _, _, rfl, s2.trans s3, s3 _ _ h2, by omega, by rw [tk]; show Paired _ ys (_ ++ []); rw [List.append_nil]; exact pieceA_st s3 p2⟩
    | some fw =>
      obtain ⟨f, ws⟩ := fw
      obtain ⟨t, b, e, h3, h4⟩ := hs2
      subst e
      obtain ⟨o1, o2, o3, o4⟩ := ok _ (List.mem_of_getElem? hs1)
      have s4 := s2.trans s3
      refine ⟨_, rfl, rfl, _, rfl, ?_⟩
      refine ⟨_, rfl, .inl ⟨rfl, _, SqL.of (s3 _ _ h2)⟩, ?_⟩
      refine ⟨_, rfl, _, rfl, _, rfl, wd, (i : Int), f, t, b, ws, rfl, s4 _ _ h3, s4 _ _ h4, w0, o1, by omega, o2, by omega, fun l H5 zs s5 hl h5 p5 => ?_⟩
      have h6 := s5 _ _ (s3 _ _ h2)
      have zl : zs.length ≤ 25 := by
        rw [paired_len p5]
        have := spl_len (w := wd) ws [] f f
        omega
      refine ⟨pl, l, ys, zs, rfl, rfl, h6, h5, sz (by omega), ?_⟩
      have kk := kp_upd (zs := ys ++ zs) h6
      refine ⟨ys ++ zs, _, _, rfl, same_mut (s4.trans s5) hpl, upd_same, by rw [List.length_append]; omega, ?_⟩
      rw [tk]
      exact paired_app (pieceA_kp kk (pieceA_st (s3.trans s5) p2)) (pieceA_kp kk (pieceA_of p5))
  · rintro σ' H' ⟨ys, v1, v2, rfl, s2, h2, l2, p2⟩
    rw [hlen, List.take_length] at p2
    exact ⟨_, rfl, k pl H' ys s2 hpl h2 p2⟩
end
end Af

set_option Elab.async false
set_option linter.all false
set_option maxRecDepth 100000
namespace Af
open PySem PySem.Spec PyProof.Rows L2
/-! a def that runs where no repr is under way (repr asks it), and repr itself -/
section
variable {P : Program} {w : World} {K : PySem.W.Frag} {mg : Str → Option Value} {base : Heap}
structure FnG (P : Program) (w : World) (K : PySem.W.Frag) (mg : Str → Option Value) (base : Heap) (k : Nat) (f : Addr) (fd : FuncData) (ps : List Str) (sp : Sp) : Prop where
  many : ∀ (xs : List V) (G : Hp) (R : VK) (E : XK), sp xs G R E → xs.length = ps.length
  goes : ∀ (A : Around) (out : List Env) (s : Shared) (G : Hp) (ar : Args) (us : List Value) (xs : List V) (R : VK) (E : XK), Room k A → A.guards = some [] → Env0 P w K mg base A out s G → BindsTo s fd ar (ps.zip us) → Vals xs us → sp xs G R E →
    codeAny (model P w) A (.call (.ref f) ar) (CR CX0 out P w G s R E) s
theorem okG {x qual : Str} {st : Stmt} {f : Addr} {fd : FuncData} {N ps : List Str} {k : Nat} {sp : Sp} (F : Fun K x qual st f fd) (S : FnScope N ps (defScope st)) (many : ∀ (xs : List V) (G : Hp) (R : VK) (E : XK), sp xs G R E → xs.length = ps.length)
    (body : ∀ (cv : Value) (A : Around) (out : List Env) (s : Shared) (G : Hp) (xs : List V) (R : VK) (E : XK), Room k (A.deeper (envOfC qual (defScope st) s.heap.objs.size f cv)) → A.guards = some [] → sp xs G R E →
      ∃ t, PSs (cxOf CX0 P w K mg base N qual (defScope st) f cv A out s G E).nox (defBody st) t ∧ t { nx := fun _ G' => R .non G', rt := R } (L2.start N xs) G) : FnG P w K mg base (k + 1) f fd ps sp := by
  obtain ⟨oc, od, kV, doc, pm, an, cv, ct, osl, rfl, lk, code⟩ := F.ex
  refine ⟨many, fun A out s G ar us xs R E room grd env bind vals hs => ?_⟩
  have nl := many _ _ _ _ hs
  have KI : K.In s.heap := env.mod.kin.keeps fun b o e => (env.bs b o e).1
  have NL : s.heap.NoLimit := env.mod.nolimit.keeps fun b o e => (env.bs b o e).1
  have kinds : ∀ y ∈ ps.zip us, (defScope st).names.lookup y.1 = some .local ∨ ((defScope st).names.lookup y.1 = some .cell ∧ ((cellsFrom (s.heap.objs.size + 1) (defScope st).names []).lookup y.1).isSome = true) := by
    rintro ⟨n, v⟩ hy
    rcases S.par n (List.of_mem_zip hy).1 with q | q
    · exact .inl q
    · exact .inr ⟨q, PySem.W.cellsFrom_some _ _ _ (.inl q)⟩
  refine codeAny_call_function room.depth (KI _ _ lk) rfl S.co S.gen rfl (PySem.W.codeRec_of KI code) (bind _ _ _ _ (wpAny_newFunctionEnv_cells S.kind kinds fun en he s1 z => ?_))
  subst he
  refine ⟨NL.keeps z.toInCall.keep, codeAny_func ?_⟩
  obtain ⟨t, ht, hq⟩ := body cv A out s G xs R E (room.deeper _) grd hs
  have I := inv_start (CX := CX0) (E := E) (N := N) (cd := cv) (f := f) (qual := qual) S room.hd env nl vals z
  refine wpAny_mono (ht.nox.run [] s1 (L2.start N xs) G _ I hq) (fun fl s' hz => ?_) fun e s' hz => hz
  have last : ∀ {σ : L2.St} {G' : Hp} {v : V} {u : Value}, Inv (cxOf CX0 P w K mg base N qual (defScope st) f cv A out s G E) [] σ G' s' → RelV v u → R v G' → CE out P w G s R u s' := fun {σ G' v u} J rv q => ⟨v, G', J.os, J.bare, J.base, J.hok, rv, q⟩
  match fl, hz with
  | .ret u, ⟨v, σ, G', J, rv, q⟩ => exact last J rv q
  | .next, ⟨σ, G', J, q⟩ => exact last (v := V.non) (u := Value.none) J rfl q
  | .brk, ⟨_, _, _, q⟩ => exact q.elim
  | .cont, ⟨_, _, _, q⟩ => exact q.elim
/-- the law, called behind the top -/
theorem callG {P : Program} {w : World} {K : PySem.W.Frag} {mg mb : Str → Option Value} {k : Nat} {fa a : Addr} {fd : FuncData} {x : Str} {sp : Sp} {s : Shared} {us : List Value} {ns : List Int} (KI : K.In s.heap) (hns : s.heap.Ns mainGlobals mg) (hb : s.heap.Ns builtinsNs mb)
    (hbb : ∀ n : Str, n ≠ "__name__" → mb n = bootBuiltins n) (NL : s.heap.NoLimit) (gn : s.gens = #[]) (ha : s.heap.get? a = some { cls := .type "list", data := .seq us.toArray }) (hi : IntsAre us ns) (short : ns.length ≤ sizeLine) (room : Room k callerA)
    (F : ∀ base : Heap, K.In base → base.Ns mainGlobals mg → FnG P w K mg base k fa fd [x] sp) (bind : ∀ (s : Shared) (u : Value), BindsTo s fd ⟨[u], []⟩ [(x, u)])
    (hs : ∀ G : Hp, Only G → SqL K G a (ns.map V.int) → sp [.ref a] G (fun v _ => v = .bl true) fun _ _ _ => False) :
    codeAny (model P w) callerA (.call (.ref fa) ⟨[.ref a], []⟩) (fun r s' => r = .ok (.ret (.bool true)) ∧ OldK s.heap s'.heap ∧ s'.os = s.os ∧ AllBare s'.gens) s := by
  have vals := vals_ints hi
  have many := hi.length
  have main : ∀ G : Hp, Only G → SqL K G a (ns.map V.int) → HOk P w G s.heap → (∀ b, G b ≠ none → b = a) → (G a ≠ none → K.lookup a = none) →
      codeAny (model P w) callerA (.call (.ref fa) ⟨[.ref a], []⟩) (fun r s' => r = .ok (.ret (.bool true)) ∧ OldK s.heap s'.heap ∧ s'.os = s.os ∧ AllBare s'.gens) s := by
    intro G hO hS ok one free
    have keep : ∀ {b : Addr} {o : Obj}, s.heap.get? b = some o → G b = none → (hidT s.heap G).get? b = some o := fun z n => hidT_get z n
    have dicts : ∀ {b : Addr} {o : Obj} {es : Array DictEntry} {ep : Nat}, s.heap.get? b = some o → o.data = .dict es ep → G b = none := by
      intro b o es ep z dz
      cases q : G b with
      | none => rfl
      | some u =>
        have y := one b (by rw [q]; simp)
        subst y
        rw [ha] at z
        cases z
        have dz' : Data.seq us.toArray _ = Data.dict es ep := dz
        cases dz'
    have spaces : ∀ {b : Addr} {m : Str → Option Value}, s.heap.Ns b m → (hidT s.heap G).Ns b m := by
      rintro b m ⟨o, es, ep, z, dz, r⟩
      exact ⟨o, es, ep, keep z (dicts z dz), dz, r⟩
    have KB : K.In (hidT s.heap G) := by
      intro b o z
      refine keep (KI b o z) ?_
      cases q : G b with
      | none => rfl
      | some u =>
        have y := one b (by rw [q]; simp)
        subst y
        rw [free (by rw [q]; simp)] at z
        cases z
    have env : Env0 P w K mg (hidT s.heap G) callerA [] s G := by
      refine ⟨rfl, ⟨KB, spaces hns, ⟨mb, spaces hb, hbb⟩, ?_⟩, fun b o z => of_hidT z, Nat.le_of_eq (hidT_size _ _), trivial, fun b z => absurd (show b ∈ ([] : List Addr) from z) (by simp), ok, .of_eq gn⟩
      obtain ⟨mc, y1, y2⟩ := NL
      exact ⟨mc, spaces y1, y2⟩
    refine codeAny_mono ((F _ KB (spaces hns)).goes callerA [] s G ⟨[.ref a], []⟩ [.ref a] [.ref a] _ _ room rfl env (bind s (.ref a)) (.cons rfl .nil) (hs G hO hS)) fun r s' z => ?_
    match r, z with
    | .ok (.ret u), z =>
      obtain ⟨v, G', hos, bare, un, ok', rv, q⟩ := z
      have q' : v = .bl true := q
      subst q'
      obtain rfl : u = Value.bool true := rv
      refine ⟨rfl, OldK.of_keep fun b o y => ?_, hos, bare⟩
      cases q : G b with
      | none => exact un.keep b o y q (by intro m; exact absurd (show b ∈ ([] : List Addr) from m) (by simp)) (by simp)
      | some u =>
        rcases hO b with z | ⟨ob, xs, z⟩
        · rw [q] at z
          cases z
        · obtain ⟨y1, _⟩ := ok b _ z
          obtain ⟨y2, _⟩ := ok' b _ (un.frzs b ob _ z)
          rw [y] at y1
          cases y1
          exact y2
    | .error e, z => exact (show False from z).elim
    | .ok .next, z => exact (show False from z).elim
    | .ok .brk, z => exact (show False from z).elim
    | .ok .cont, z => exact (show False from z).elim
  cases hk : K.lookup a with
  | some o =>
    have z := KI a o hk
    rw [ha] at z
    cases z
    exact main (fun _ => none) (fun _ => .inl rfl) (.inr ⟨_, us.toArray, _, hk, rfl, rfl, rfl, by rw [List.size_toArray, many]; exact short, by simpa using vals⟩) (fun b u y => by cases (show (none : Option HO) = some u from y)) (fun b y => absurd rfl y) fun y => absurd rfl y
  | none =>
    have at_ : ∀ {b : Addr} {u : HO}, (if b = a then some (HO.frz { cls := .type "list", data := .seq us.toArray } (.lst (ns.map V.int))) else none) = some u → b = a ∧ u = .frz { cls := .type "list", data := .seq us.toArray } (.lst (ns.map V.int)) := by
      intro b u y
      by_cases q : b = a
      · rw [if_pos q] at y
        exact ⟨q, (Option.some.inj y).symm⟩
      · rw [if_neg q] at y
        cases y
    refine main (fun b => if b = a then some (.frz { cls := .type "list", data := .seq us.toArray } (.lst (ns.map V.int))) else none) (fun b => ?_) (.inl (.inr ⟨{ cls := .type "list", data := .seq us.toArray }, if_pos rfl⟩)) (fun b u y => ?_) (fun b y => ?_) fun _ => hk
    · by_cases q : b = a
      · exact .inr ⟨_, _, if_pos q⟩
      · exact .inl (if_neg q)
    · obtain ⟨rfl, rfl⟩ := at_ y
      exact ⟨ha, by rw [List.length_map]; exact short, us, _, vals, ha⟩
    · by_cases q : b = a
      · exact q
      · exact absurd (if_neg q) y
theorem walkG {l : PySem.W.OpenLaw} {n k : Nat} {q : Program} {loose : List Str} {XP : (Str → Option Value) → Heap → Prop} {YP : World → Heap → Prop} {d : DefRec} {K : Params → PySem.W.Frag} {sp : World → Sp} {x : Str} (hn : l.most = some n) (small : n ≤ sizeLine) (hd : d.params.defaults = []) (room : Room k callerA)
    (hY : ∀ (w : World) (h : Heap), YP w h → (K w.params).In h)
    (F : ∀ (w : World) (mg : Str → Option Value) (fa : Addr) (h : Heap), (K w.params).In h → h.Ns mainGlobals mg → mg d.name = some (.ref fa) →
      ∃ fd : FuncData, (∀ (s : Shared) (u : Value), BindsTo s fd ⟨[u], []⟩ [(x, u)]) ∧ ∀ base : Heap, (K w.params).In base → base.Ns mainGlobals mg → FnG l.prog w (K w.params) mg base k fa fd [x] (sp w))
    (hs : ∀ (w : World) (G : Hp) (a : Addr) (ns : List Int), ns.length ≤ n → Only G → SqL (K w.params) G a (ns.map V.int) → sp w [.ref a] G (fun v _ => v = .bl true) fun _ _ _ => False) :
    PySem.W.WalkO q loose XP YP l.row.toRowW d [] (fun f vs => PySem.call f vs) := by
  refine Att.attach_call hn hd fun w s₀ s₁ mg mb fa o pm cd doc a us ns G Y ho hq hcd hmg hobj hints hlen hg => ?_
  have KI := hY w _ Y
  obtain ⟨fd, hb, hF⟩ := F w mg fa _ KI G.T.g hmg
  exact callG KI G.T.g G.T.b G.T.builtins G.T.nolimit hg hobj hints (Nat.le_trans hlen small) room hF hb fun H hO hS => hs w H a ns hlen hO hS
end
end Af

set_option Elab.async false
set_option linter.all false
set_option maxRecDepth 100000
namespace Af
open PySem PySem.Spec PyProof.Rows L2
/-! data with empty dicts within, and its repr -/
mutual
inductive Dq (K : PySem.W.Frag) (H : Hp) : V → PyData → Prop
  | non : Dq K H .non .none
  | bl (b : Bool) : Dq K H (.bl b) (.bool b)
  | int (i : Int) : Dq K H (.int i) (.int i)
  | str (x : Str) : Dq K H (.str x) (.str x)
  | lst {a : Addr} {xs : List V} {ds : List PyData} : H a = some (.lst xs) → DqAll K H xs ds → Dq K H (.ref a) (.list ds)
  | tup {a : Addr} {xs : List V} {ds : List PyData} : H a = some (.tup xs) → DqAll K H xs ds → Dq K H (.ref a) (.tuple ds)
  | dic {a : Addr} : H a = some (.dK []) → Dq K H (.ref a) (.dict [])
inductive DqAll (K : PySem.W.Frag) (H : Hp) : List V → List PyData → Prop
  | nil : DqAll K H [] []
  | cons {v : V} {vs : List V} {d : PyData} {ds : List PyData} : Dq K H v d → DqAll K H vs ds → DqAll K H (v :: vs) (d :: ds)
end
section
variable {X : Cx} {pins : List (Addr × Obj)} {σ : L2.St} {H : Hp} {s : Shared}
mutual
/-- such data is read, and shown whatever calls are under way -/
theorem Dq.sees (I : Inv X pins σ H s) : ∀ (d : PyData) (v : V) (u : Value), Dq X.K H v d → RelV v u → d.showable = true → d.shown.length ≤ sizeLine →
    ∃ as bs, Reads s.heap u d as ∧ ReadAtMost s.heap d.depth bs ∧ ReprK X.prog X.w bs s.heap d.depth u d.shown
  | .none, _, _, h, r, sh, sz => by
    cases h
    cases r
    obtain ⟨bs, h1, h2⟩ := ReprK.of_reads (prog := X.prog) (w := X.w) (h₀ := s.heap) Reads.none sh (fun z => by cases z) sz
    exact ⟨_, bs, Reads.none, h1, h2⟩
  | .bool b, _, _, h, r, sh, sz => by
    cases h
    cases r
    obtain ⟨bs, h1, h2⟩ := ReprK.of_reads (prog := X.prog) (w := X.w) (h₀ := s.heap) (Reads.bool b) sh (fun z => by cases z) sz
    exact ⟨_, bs, Reads.bool b, h1, h2⟩
  | .int i, _, _, h, r, sh, sz => by
    cases h
    obtain ⟨t, rfl⟩ := r
    obtain ⟨bs, h1, h2⟩ := ReprK.of_reads (prog := X.prog) (w := X.w) (h₀ := s.heap) (Reads.int i t) sh (fun z => by cases z) sz
    exact ⟨_, bs, Reads.int i t, h1, h2⟩
  | .str x, _, _, h, r, sh, sz => by
    cases h
    obtain ⟨t, rfl⟩ := r
    obtain ⟨bs, h1, h2⟩ := ReprK.of_reads (prog := X.prog) (w := X.w) (h₀ := s.heap) (Reads.str x t) sh (fun z => by cases z) sz
    exact ⟨_, bs, Reads.str x t, h1, h2⟩
  | .list ds, _, _, h, r, sh, sz => by
    cases h with
    | @lst a xs _ hs ha =>
      cases r
      obtain ⟨its, rv, ⟨o, n, ho, hc, _, hd⟩, _⟩ := I.list (SqL.of hs)
      have sz' : (listText (PyData.shownAll ds)).length ≤ sizeLine := by simpa only [PyData.shown] using sz
      obtain ⟨as, bs, hr, hb, hk⟩ := Dq.seesAll I ds _ its ha rv (by simpa [PyData.showable] using sh) fun t ht => Nat.le_trans (listText_mem_le ht) sz'
      have rd : Reads s.heap (.ref a) (.list ds) _ := .list ho hc hd hr
      have new : a ∉ bs := not_mem_of_deeper rd (by simp only [PyData.depth]; omega) hb
      refine ⟨_, a :: bs, rd, ReadAtMost.cons rd (by simp only [PyData.depth]; omega) hb, ?_⟩
      simp only [PyData.depth, PyData.shown]
      cases its with
      | nil =>
        cases hr
        simp only [PyData.shownAll, listText_nil]
        exact ReprK.listEmpty ho hc hd
      | cons x l => exact ReprK.list ho hc hd new (by simpa using hk.length_eq) fun i y e => hk.item i y (by simpa using e)
  | .tuple ds, _, _, h, r, sh, sz => by
    cases h with
    | @tup a xs _ hs ha =>
      cases r
      obtain ⟨its, rv, ⟨o, ho, hc, n, hd⟩, _⟩ := I.tuple (SqT.of hs)
      have sz' : (tupleText (PyData.shownAll ds)).length ≤ sizeLine := by simpa only [PyData.shown] using sz
      obtain ⟨as, bs, hr, hb, hk⟩ := Dq.seesAll I ds _ its ha rv (by simpa [PyData.showable] using sh) fun t ht => Nat.le_trans (tupleText_mem_le ht) sz'
      have rd : Reads s.heap (.ref a) (.tuple ds) _ := .tuple ho hc hd hr
      have new : a ∉ bs := not_mem_of_deeper rd (by simp only [PyData.depth]; omega) hb
      refine ⟨_, a :: bs, rd, ReadAtMost.cons rd (by simp only [PyData.depth]; omega) hb, ?_⟩
      simp only [PyData.depth, PyData.shown]
      exact ReprK.tuple ho hc hd new hk
  | .dict kvs, _, _, h, r, sh, sz => by
    cases h with
    | @dic a ha =>
      cases r
      obtain ⟨_, hne, vs, rv, o, es, ep, h1, h2, h3, _, h4, _⟩ := dk_of I.hok ha
      cases rv
      have e : es.toList = [] := by
        cases q : es.toList with
        | nil => rfl
        | cons y l =>
          rw [q] at h4
          cases h4
      have rd : Reads s.heap (.ref a) (.dict []) ([a] ++ []) := Reads.dict (kvs := []) (as := []) (bs := []) h1 h2.1 h3 (by rw [e]; exact .nil) (by rw [e]; exact .nil)
      obtain ⟨bs, h5, h6⟩ := ReprK.of_reads (prog := X.prog) (w := X.w) (h₀ := s.heap) rd sh (fun _ z => by
        have z' : sysModules ∈ [a] := z
        rw [← List.mem_singleton.mp z'] at hne
        exact absurd hne (by simp)) sz
      exact ⟨_, bs, rd, h5, h6⟩
theorem Dq.seesAll (I : Inv X pins σ H s) : ∀ (ds : List PyData) (vs : List V) (us : List Value), DqAll X.K H vs ds → Vals vs us → PyData.showableAll ds = true → (∀ t ∈ PyData.shownAll ds, t.length ≤ sizeLine) →
    ∃ as bs, ReadsAll s.heap us ds as ∧ ReadAtMost s.heap (PyData.depthAll ds) bs ∧ ReprAllK X.prog X.w bs s.heap (PyData.depthAll ds) us (PyData.shownAll ds)
  | [], _, _, h, r, _, _ => by
    cases h
    cases r
    refine ⟨_, [], ReadsAll.nil, ⟨fun b z => (by simp at z), ?_⟩⟩
    simp only [PyData.shownAll]
    exact .nil
  | d :: ds, _, _, h, r, sh, sz => by
    cases h with
    | cons h1 h2 =>
      cases r with
      | cons r1 r2 =>
        have sh' : d.showable = true ∧ PyData.showableAll ds = true := by simpa [PyData.showableAll] using sh
        obtain ⟨a1, b1, q1, m1, k1⟩ := Dq.sees I d _ _ h1 r1 sh'.1 (sz _ (by simp only [PyData.shownAll]; exact List.mem_cons_self))
        obtain ⟨a2, b2, q2, m2, k2⟩ := Dq.seesAll I ds _ _ h2 r2 sh'.2 fun t ht => sz t (by simp only [PyData.shownAll]; exact List.mem_cons_of_mem _ ht)
        refine ⟨_, b1 ++ b2, ReadsAll.cons q1 q2, fun b hb => ?_, ?_⟩
        · simp only [PyData.depthAll]
          rcases List.mem_append.mp hb with hb | hb
          · obtain ⟨d', a', r', y⟩ := m1 b hb
            exact ⟨d', a', r', by omega⟩
          · obtain ⟨d', a', r', y⟩ := m2 b hb
            exact ⟨d', a', r', by omega⟩
        · simp only [PyData.depthAll, PyData.shownAll]
          refine .cons ((k1.more fun b hb => List.mem_append.mpr (.inl hb)).level_le (by omega)) (k2.more_le (fun b hb => List.mem_append.mpr (.inr hb)) (by omega))
end
def rRepr (K : PySem.W.Frag) : List V → Hp → VK → Prop := fun xs H Q => ∃ (a : Addr) (vs : List V) (ds : List PyData), xs = [.ref a] ∧ H a = some (.tup vs) ∧ DqAll K H vs ds ∧ PyData.showableAll ds = true ∧ PyData.depthAll ds ≤ 60 ∧ (PyData.tuple ds).shown.length ≤ sizeLine ∧ Q (.str (PyData.tuple ds).shown) H
/-- repr of a tuple of data -/
theorem call_repr' (hg : X.A.guards = some []) (hu : X.A.units + 64 < cLine) : CallR X (.builtin "repr") (rRepr X.K) := by
  intro pins s σ H xs us Q I r h
  obtain ⟨a, vs, ds, rfl, hs, hd, sh, dp, sz, q⟩ := h
  obtain ⟨u, rfl, ru⟩ := vals1 r
  cases (show u = Value.ref a from ru)
  obtain ⟨its, rv, ⟨o, ho, hc, n, hdd⟩, _⟩ := I.tuple (SqT.of hs)
  have sz' : (tupleText (PyData.shownAll ds)).length ≤ sizeLine := by simpa only [PyData.shown] using sz
  obtain ⟨as, bs, hr, hb, hk⟩ := Dq.seesAll I ds vs its hd rv sh fun t ht => Nat.le_trans (tupleText_mem_le ht) sz'
  have rd : Reads s.heap (.ref a) (.tuple ds) _ := .tuple ho hc hdd hr
  have new : a ∉ bs := not_mem_of_deeper rd (by simp only [PyData.depth]; omega) hb
  refine call_repr_slot (T := "tuple") (by omega) ⟨o, ho, hc⟩ PySem.F.slot_tuple_repr (call_tuple_reprK ho hc hdd new hk hg (fun b _ => Clear.nil b) (by show X.A.units + 1 + (PyData.depthAll ds + 1) < cLine; omega) (fun _ _ e => e) (fun h' u tk keep => ?_) sz')
  refine ⟨_, _, rfl, .str (PyData.tuple ds).shown, H, I.kept keep, ⟨u, ?_⟩, q⟩
  simp only [PyData.shown]
end
end Af

set_option Elab.async false
set_option linter.all false
set_option maxRecDepth 100000
namespace Af
open PySem PySem.Spec PyProof.Rows L2
/-! what the program's questions answer, told of data -/
def idxD (m : Int) : PyData → Bool
  | .int i => decide (0 ≤ i) && decide (i < m)
  | _ => false
def widthD : PyData → Bool
  | .int i => decide (1 ≤ i) && decide (i ≤ 24)
  | _ => false
def worthsD : PyData → Bool
  | .tuple ds => !ds.isEmpty && ds.all (idxD 8)
  | _ => false
def lenD : PyData → Nat
  | .tuple ds => ds.length
  | .list ds => ds.length
  | _ => 0
def contentD (d : PyData) : Bool := worthsD d && decide (lenD d ≤ 24)
def addD (m : Int) (n : Nat) : PyData → Bool
  | .int i => decide (i + (n : Int) ≤ m)
  | _ => false
def stepQ (m : Int) : PyData → Bool
  | .none => true
  | .tuple [f, ws] => idxD m f && worthsD ws && addD m (lenD ws) f
  | _ => false
def stepsQ (m : Int) : PyData → Bool
  | .list ds => ds.all (stepQ m)
  | _ => false
section
variable {K : PySem.W.Frag} {H : Hp}
theorem DqAll.len : ∀ {xs : List V} {ds : List PyData}, DqAll K H xs ds → xs.length = ds.length
  | _, _, .nil => rfl
  | _, _, .cons _ t => by
    rw [List.length_cons, List.length_cons, t.len]
theorem dq_idx {x : V} {d : PyData} (h : Dq K H x d) (m : Int) : idxB m x = idxD m d := by
  cases h <;> rfl
theorem dq_width {x : V} {d : PyData} (h : Dq K H x d) : widthB x = widthD d := by
  cases h <;> rfl
theorem dq_add {x : V} {d : PyData} (h : Dq K H x d) (m : Int) (n : Nat) : addB m n x = addD m n d := by
  cases h <;> rfl
theorem dq_all {m : Int} : ∀ {xs : List V} {ds : List PyData}, DqAll K H xs ds → xs.all (idxB m) = ds.all (idxD m)
  | _, _, .nil => rfl
  | _, _, .cons h t => by
    rw [List.all_cons, List.all_cons, dq_all t, dq_idx h]
theorem dq_empty {xs : List V} {ds : List PyData} (h : DqAll K H xs ds) : xs.isEmpty = ds.isEmpty := by
  cases h <;> rfl
theorem dq_len {x : V} {d : PyData} (h : Dq K H x d) : lenB H x = lenD d := by
  cases h with
  | lst e t => simp only [lenB, e, lenD]; exact t.len
  | tup e t => simp only [lenB, e, lenD]; exact t.len
  | dic e => simp only [lenB, e, lenD]
  | _ => rfl
theorem dq_worths {x : V} {d : PyData} (h : Dq K H x d) : worthsB H x = worthsD d := by
  cases h with
  | lst e t => simp only [worthsB, e, worthsD]
  | tup e t => simp only [worthsB, e, worthsD]; rw [dq_empty t, dq_all t]
  | dic e => simp only [worthsB, e, worthsD]
  | _ => rfl
theorem dq_content {x : V} {d : PyData} (h : Dq K H x d) : contentB H x = contentD d := by
  unfold contentB contentD
  rw [dq_worths h, dq_len h]
theorem dq_step {x : V} {d : PyData} (h : Dq K H x d) (m : Int) : stepB H m x = stepQ m d := by
  cases h with
  | non => rfl
  | lst e t => simp only [stepB, e, stepQ]
  | dic e => simp only [stepB, e, stepQ]
  | tup e t =>
    cases t with
    | nil => simp only [stepB, e, stepQ]
    | cons h1 t =>
      cases t with
      | nil => simp only [stepB, e, stepQ]
      | cons h2 t =>
        cases t with
        | nil =>
          simp only [stepB, e, stepQ]
          rw [dq_idx h1, dq_worths h2, dq_len h2, dq_add h1]
        | cons h3 t => simp only [stepB, e, stepQ]
  | _ => rfl
theorem dq_stepAll {m : Int} : ∀ {xs : List V} {ds : List PyData}, DqAll K H xs ds → xs.all (stepB H m) = ds.all (stepQ m)
  | _, _, .nil => rfl
  | _, _, .cons h t => by
    rw [List.all_cons, List.all_cons, dq_stepAll t, dq_step h]
theorem dq_steps {x : V} {d : PyData} (h : Dq K H x d) (m : Int) : stepsB H m x = stepsQ m d := by
  cases h with
  | lst e t => simp only [stepsB, e, stepsQ]; exact dq_stepAll t
  | tup e t => simp only [stepsB, e, stepsQ]
  | dic e => simp only [stepsB, e, stepsQ]
  | _ => rfl
theorem dq_ty {x : V} {d : PyData} (h : Dq K H x d) : ∃ n, Ty K H x n := by
  cases h with
  | non => exact ⟨_, .non, by decide, fun _ _ _ e => by cases e⟩
  | bl b => exact ⟨_, .bl b, by decide, fun _ _ _ e => by cases e⟩
  | int i => exact ⟨_, .int i, by decide, fun _ _ _ e => by cases e⟩
  | str z => exact ⟨_, .str z, by decide, fun _ _ _ e => by cases e⟩
  | lst e t => exact ⟨_, .lst e, by decide, fun b o u z q => by cases z; rw [e] at q; cases q⟩
  | tup e t => exact ⟨_, .tup e, by decide, fun b o u z q => by cases z; rw [e] at q; cases q⟩
  | dic e => exact ⟨_, .dK e, by decide, fun b o u z q => by cases z; rw [e] at q; cases q⟩
theorem DqAll.mem : ∀ {xs : List V} {ds : List PyData} {y : V}, DqAll K H xs ds → y ∈ xs → ∃ d, d ∈ ds ∧ Dq K H y d
  | _, _, _, .nil, h => by simp at h
  | _, _, y, .cons r t, h => by
    rcases List.mem_cons.mp h with rfl | h
    · exact ⟨_, List.mem_cons_self, r⟩
    · obtain ⟨d, h1, h2⟩ := t.mem h
      exact ⟨d, List.mem_cons_of_mem _ h1, h2⟩
mutual
theorem Dq.same {H' : Hp} (s : Same H H') : ∀ (d : PyData) (x : V), Dq K H x d → Dq K H' x d
  | .none, _, h => by cases h; exact .non
  | .bool _, _, h => by cases h; exact .bl _
  | .int _, _, h => by cases h; exact .int _
  | .str _, _, h => by cases h; exact .str _
  | .list ds, _, h => by
    cases h with
    | lst e t => exact .lst (s _ _ e) (DqAll.same s ds _ t)
  | .tuple ds, _, h => by
    cases h with
    | tup e t => exact .tup (s _ _ e) (DqAll.same s ds _ t)
  | .dict _, _, h => by
    cases h with
    | dic e => exact .dic (s _ _ e)
theorem DqAll.same {H' : Hp} (s : Same H H') : ∀ (ds : List PyData) (xs : List V), DqAll K H xs ds → DqAll K H' xs ds
  | [], _, h => by cases h; exact .nil
  | d :: ds, _, h => by
    cases h with
    | cons h1 h2 => exact .cons (Dq.same s d _ h1) (DqAll.same s ds _ h2)
end
/-! small data: to a depth, lists and tuples of at most 45 parts, short texts -/
def flatD : PyData → Bool
  | .none | .bool _ => true
  | .int i => decide (i.natAbs.log2 < 1920) && decide ((toString i : Str).length ≤ 45)
  | .str x => decide ((reprText x).length ≤ 45)
  | .dict kvs => kvs.isEmpty
  | _ => false
def Sm : Nat → PyData → Prop
  | 0, d => flatD d = true
  | n + 1, d => flatD d = true ∨ ∃ ds, (d = .list ds ∨ d = .tuple ds) ∧ ds.length ≤ 45 ∧ ∀ y ∈ ds, Sm n y
theorem Sm.mono {d : PyData} : ∀ {n : Nat}, Sm n d → Sm (n + 1) d
  | 0, h => .inl h
  | n + 1, h => by
    rcases h with h | ⟨ds, h1, h2, h3⟩
    · exact .inl h
    · exact .inr ⟨ds, h1, h2, fun y hy => (h3 y hy).mono⟩
theorem dq_th : ∀ {n : Nat} {x : V} {d : PyData}, Dq K H x d → Sm n d → Th K H n x
  | 0, _, _, h, _ => dq_ty h
  | n + 1, x, d, h, sm => by
    refine ⟨dq_ty h, fun a xs e z => ?_⟩
    subst e
    have key : ∀ ds, DqAll K H xs ds → (d = .list ds ∨ d = .tuple ds) → xs.length ≤ 100000 ∧ ∀ y ∈ xs, Th K H n y := fun ds t q => by
      rcases sm with f | ⟨es, h1, h2, h3⟩
      · rcases q with rfl | rfl <;> cases f
      · have e : es = ds := by
          rcases q with rfl | rfl <;> rcases h1 with h1 | h1 <;> cases h1 <;> rfl
        subst e
        refine ⟨by rw [t.len]; omega, fun y hy => ?_⟩
        obtain ⟨d', m1, m2⟩ := t.mem hy
        exact dq_th m2 (h3 d' m1)
    cases h with
    | lst e t =>
      rcases z with z | z
      · rw [e] at z; cases z
      · rw [e] at z; cases z; exact key _ t (.inl rfl)
    | tup e t =>
      rcases z with z | z
      · rw [e] at z; cases z; exact key _ t (.inr rfl)
      · rw [e] at z; cases z
    | dic e => rcases z with z | z <;> (rw [e] at z; cases z)
end
def bnd : Nat → Nat
  | 0 => 45
  | n + 1 => 45 * bnd n + 93
theorem bnd_le (n : Nat) : bnd n ≤ bnd (n + 1) := by
  show bnd n ≤ 45 * bnd n + 93
  omega
theorem flat_len {d : PyData} (h : flatD d = true) : d.shown.length ≤ 45 ∧ d.showable = true ∧ d.depth ≤ 1 := by
  cases d with
  | none => exact ⟨by decide, rfl, by decide⟩
  | bool b => cases b <;> exact ⟨by decide, rfl, by decide⟩
  | int i =>
    have h' : (decide (i.natAbs.log2 < 1920) && decide ((toString i : Str).length ≤ 45)) = true := h
    rw [Bool.and_eq_true] at h'
    refine ⟨?_, ?_, Nat.zero_le _⟩
    · simp only [PyData.shown]
      exact of_decide_eq_true h'.2
    · simp only [PyData.showable]
      exact h'.1
  | str x =>
    refine ⟨?_, by simp only [PyData.showable], Nat.zero_le _⟩
    simp only [PyData.shown]
    exact of_decide_eq_true h
  | dict kvs =>
    cases kvs with
    | nil => exact ⟨by decide +kernel, by simp only [PyData.showable, PyData.showableKv], by decide⟩
    | cons a b => cases h
  | list ds => cases h
  | tuple ds => cases h
theorem sum_le {b : Nat} : ∀ {ts : List Str}, (∀ t ∈ ts, t.length ≤ b) → (ts.map (·.length)).sum ≤ b * ts.length
  | [], _ => Nat.zero_le _
  | t :: ts, h => by
    have h1 := h t List.mem_cons_self
    have h2 := sum_le (b := b) (ts := ts) fun y hy => h y (List.mem_cons_of_mem _ hy)
    rw [List.map_cons, List.sum_cons, List.length_cons, Nat.mul_succ]
    omega
theorem shownAll_mem : ∀ {ds : List PyData} {t : Str}, t ∈ PyData.shownAll ds → ∃ d ∈ ds, d.shown = t
  | [], t, h => by
    simp only [PyData.shownAll] at h
    cases h
  | d :: ds, t, h => by
    simp only [PyData.shownAll] at h
    rcases List.mem_cons.mp h with h | h
    · exact ⟨d, List.mem_cons_self, h.symm⟩
    · obtain ⟨e, h1, h2⟩ := shownAll_mem h
      exact ⟨e, List.mem_cons_of_mem _ h1, h2⟩
theorem shownAll_len : ∀ ds : List PyData, (PyData.shownAll ds).length = ds.length
  | [] => by simp only [PyData.shownAll, List.length_nil]
  | d :: ds => by simp only [PyData.shownAll, List.length_cons, shownAll_len ds]
theorem showAll_of : ∀ {ds : List PyData}, (∀ d ∈ ds, d.showable = true) → PyData.showableAll ds = true
  | [], _ => by simp only [PyData.showableAll]
  | d :: ds, h => by
    simp only [PyData.showableAll, h d List.mem_cons_self, showAll_of fun y hy => h y (List.mem_cons_of_mem _ hy), Bool.and_self]
theorem depthAll_of {n : Nat} : ∀ {ds : List PyData}, (∀ d ∈ ds, d.depth ≤ n) → PyData.depthAll ds ≤ n
  | [], _ => Nat.zero_le _
  | d :: ds, h => by
    have h1 := h d List.mem_cons_self
    have h2 := depthAll_of (n := n) (ds := ds) fun y hy => h y (List.mem_cons_of_mem _ hy)
    show max d.depth (PyData.depthAll ds) ≤ n
    omega
theorem texts_le {b : Nat} {ds : List PyData} (h : ∀ d ∈ ds, d.shown.length ≤ b) : (listText (PyData.shownAll ds)).length ≤ b * ds.length + 2 * ds.length + 3 ∧ (tupleText (PyData.shownAll ds)).length ≤ b * ds.length + 2 * ds.length + 3 := by
  have q : ((PyData.shownAll ds).map (·.length)).sum ≤ b * (PyData.shownAll ds).length := sum_le fun t ht => by
    obtain ⟨d, h1, h2⟩ := shownAll_mem ht
    rw [← h2]
    exact h d h1
  have l := shownAll_len ds
  rw [l] at q
  have h1 := listText_len_le (PyData.shownAll ds)
  have h2 := tupleText_len_le (PyData.shownAll ds)
  rw [l] at h1 h2
  exact ⟨by omega, by omega⟩
theorem Sm.text : ∀ {n : Nat} {d : PyData}, Sm n d → d.shown.length ≤ bnd n ∧ d.showable = true ∧ d.depth ≤ n + 1
  | 0, d, h => flat_len h
  | n + 1, d, h => by
    rcases h with h | ⟨ds, h1, h2, h3⟩
    · obtain ⟨q1, q2, q3⟩ := flat_len h
      refine ⟨?_, q2, by omega⟩
      show _ ≤ 45 * bnd n + 93
      omega
    · have k : ∀ y ∈ ds, y.shown.length ≤ bnd n ∧ y.showable = true ∧ y.depth ≤ n + 1 := fun y hy => (h3 y hy).text
      obtain ⟨t1, t2⟩ := texts_le fun y hy => (k y hy).1
      have e : bnd n * ds.length ≤ bnd n * 45 := Nat.mul_le_mul_left _ h2
      have s := showAll_of fun y hy => (k y hy).2.1
      have p := depthAll_of fun y hy => (k y hy).2.2
      have u : bnd (n + 1) = 45 * bnd n + 93 := rfl
      rcases h1 with rfl | rfl
      · refine ⟨?_, by simpa only [PyData.showable] using s, by simp only [PyData.depth]; omega⟩
        simp only [PyData.shown]
        omega
      · refine ⟨?_, by simpa only [PyData.showable] using s, by simp only [PyData.depth]; omega⟩
        simp only [PyData.shown]
        omega
/-- three parts of small data can be shown -/
theorem three_text {a b c : PyData} (h1 : Sm 3 a) (h2 : Sm 3 b) (h3 : Sm 3 c) : PyData.showableAll [a, b, c] = true ∧ PyData.depthAll [a, b, c] ≤ 60 ∧ (PyData.tuple [a, b, c]).shown.length ≤ sizeLine := by
  have k : ∀ y ∈ [a, b, c], y.shown.length ≤ bnd 3 ∧ y.showable = true ∧ y.depth ≤ 4 := fun y hy => by
    simp only [List.mem_cons, List.not_mem_nil, or_false] at hy
    rcases hy with rfl | rfl | rfl
    · exact h1.text
    · exact h2.text
    · exact h3.text
  refine ⟨showAll_of fun y hy => (k y hy).2.1, Nat.le_trans (depthAll_of fun y hy => (k y hy).2.2) (by decide), ?_⟩
  simp only [PyData.shown]
  obtain ⟨_, t⟩ := texts_le fun y hy => (k y hy).1
  exact Nat.le_trans t (by show bnd 3 * 3 + 2 * 3 + 3 ≤ sizeLine; decide)
end Af

set_option Elab.async false
set_option linter.all false
set_option maxRecDepth 100000
namespace Af
open PySem PySem.Spec PyProof.Rows L2
/-! an object made where an exception is caught -/
section
variable {X : Cx} {CX : CXT} {k : Nat} {f C : Addr} {fd : FuncData} {ps : List Str} {sp : Sp} {E : L2.St → XK} {x : Str} {p pos : Pos} {e : Expr} {es : List Expr} {t : TA}
def tMakeS (C : Addr) (sp : Sp) (E : L2.St → XK) (t : TA) : TE := fun σ H Q => t σ H fun vs G => ∀ a d, G a = none → G d = none → d ≠ a → sp (.ref a :: vs) (upd (upd G d (.own a)) a (.ins C d [])) (fun v G' => v = .non ∧ Q (.ref a) G') (E σ)
theorem run_makeS {pins : List (Addr × Obj)} {σ : L2.St} {H : Hp} {s : Shared} {Q : VK} {us : List Value} {vs : List V} (M : Mk X.K C f) (F : FnOk X.prog X.w X.K X.mg X.base CX k f fd ps sp) (room : Room (k + 1) X.A) (b : Binds X.K fd ps []) (out : PassesAt CX X σ (E σ)) (I : Inv X pins σ H s) (r : Vals vs us)
    (h : ∀ a d, H a = none → H d = none → d ≠ a → sp (.ref a :: vs) (upd (upd H d (.own a)) a (.ins C d [])) (fun v G => v = .non ∧ Q (.ref a) G) (E σ)) : wpAny (model X.prog X.w) X.A (call (.ref C) us) (EP X pins σ Q) X.xe s := by
  have q := h (s.heap.objs.size + 1) s.heap.objs.size (I.hok.fresh (Nat.le_succ _)) (I.hok.fresh (Nat.le_refl _)) (Nat.ne_of_lt (Nat.lt_succ_self _))
  have J := Inv.made (C := C) I
  have rr : Vals (V.ref (s.heap.objs.size + 1) :: vs) (Value.ref (s.heap.objs.size + 1) :: us) := .cons rfl r
  have nl : (Value.ref (s.heap.objs.size + 1) :: us).length = ps.length := by
    rw [← rr.length]
    exact F.len _ _ _ _ q
  have bb := b _ (Value.ref (s.heap.objs.size + 1) :: us) J.kIn (by rw [List.append_nil]; exact nl)
  rw [List.append_nil] at bb
  refine wpAny_call (make_map (f := f) I.kIn M.makes M.init (beq_iff_eq.mp M.fn) (codeAny_mono (F.run _ X.stack _ _ ⟨Value.ref (s.heap.objs.size + 1) :: us, []⟩ (Value.ref (s.heap.objs.size + 1) :: us) _ _ (E σ) (room.make C us []) (J.env0.make C us []) bb rr q) fun r s' z => ?_))
  match r, z with
  | .error e, z => exact out pins _ _ e s' J z
  | .ok (.ret u), z =>
    obtain ⟨v, G, I3, rv, ev, q3⟩ := J.after z
    subst ev
    exact ⟨rv, ⟨V.ref (s.heap.objs.size + 1), G, I3, rfl, q3⟩⟩
  | .ok .next, z => exact (show False from z).elim
  | .ok .brk, z => exact (show False from z).elim
  | .ok .cont, z => exact (show False from z).elim
theorem pe_makeS (M : Mk X.K C f) (F : FnOk X.prog X.w X.K X.mg X.base CX k f fd ps sp) (room : Room (k + 1) X.A) (hg : Gl X x) (hm : X.mg x = some (.ref C)) (b : Binds X.K fd ps []) (out : ∀ σ, PassesAt CX X σ (E σ)) (ha : PA X (e :: es) t)
    (dbg : (x == ("__debug__" : Str)) = false := by decide) (he : starEach (e :: es) X.env = (false, eval e X.env) :: starEach es X.env := by rfl) (pl : (backTo pos (starEach es X.env)).any (·.1) = false := by rfl) :
    PE X (.Call (.Name x p) (e :: es) [] pos) (tMakeS C sp E t) := by
  refine ⟨fun pins s σ H Q I h => wpAny_Call_Name_kw (ld_glob I hg hm (PySem.W.callWith_K (h₀ := X.base) I.ok.mod.kin M.kp (thn (ha.run pos pins s σ H _ I h) fun us s1 z => ?_) he pl) dbg)⟩
  obtain ⟨vs, G, I1, r, q⟩ := z
  exact ⟨I1.kIn, run_makeS M F room b (out σ) I1 r q⟩
end
end Af

set_option Elab.async false
set_option linter.all false
set_option maxRecDepth 100000
set_option maxHeartbeats 2000000
namespace Af
open PySem PySem.Spec PyProof.Rows L2
/-! an error that a suite puts into a name is held behind the try -/
def HeldE (cls : Value) (d : Option Addr) (a : Addr) : HO := .ext fun h => ∃ (oe : Obj) (vs : Array Value), h.get? a = some oe ∧ Zc cls d oe ∧ oe.data = .fields vs
theorem heldE_ok {P : Program} {w : World} {H : Hp} {h : Heap} {a : Addr} {cls : Value} {d : Option Addr} {oe : Obj} {vs : Array Value} (e : h.get? a = some oe) (z : Zc cls d oe) (q : oe.data = .fields vs) : ObjOk P w H h a (HeldE cls d a) :=
  ⟨⟨oe, vs, e, z, q⟩, ⟨oe, e⟩, fun _ _ ⟨o, v, y, r⟩ k => ⟨o, v, k o y, r⟩⟩
/-- what 'except x as n' wishes: behind the suite the error is held -/
def wHold (K : PySem.W.Frag) (c : Value) (i : Nat) (ts : Addr → Value → Option Addr → TS) (Wout : WX) (D : Ends) : WX := fun cls d σ H => ∃ yes, PySem.W.exmOne K cls c = some yes ∧
  (yes = true → ∀ a, H a = none → ts a cls d { nx := fun τ G => D.nx (τ.set i none) (upd G a (HeldE cls d a)), rt := fun _ _ => False, bk := fun _ _ => False, ct := fun _ _ => False } (σ.set i (some (.ref a))) H) ∧ (yes = false → Wout cls d σ H)
section
variable {X : Cx} {x n : Str} {c : Value} {i : Nat} {body suite : List Stmt} {b₀ : Stmt} {np pos pos' : Pos} {tb : WX → TS} {ts : Addr → Value → Option Addr → TS} {Wout : WX}
theorem hold_end {pins : List (Addr × Obj)} {σ : L2.St} {H : Hp} {s : Shared} {a : Addr} {oe : Obj} {vs : Array Value} {cls : Value} {d : Option Addr} (I : Inv X ((a, oe) :: pins) σ H s) (z : Zc cls d oe) (q : oe.data = .fields vs) (fresh : X.s_0.heap.get? a = none)
    (apart : ∀ p ∈ X.pn ++ pins, p.1 ≠ a) : Inv X pins σ (upd H a (HeldE cls d a)) s := by
  obtain ⟨ea, na, nl, nf, nc⟩ := I.pin (a, oe) (List.mem_append.mpr (.inr List.mem_cons_self))
  have ins : ∀ p ∈ X.pn ++ pins, p ∈ X.pn ++ (a, oe) :: pins := fun p hp => by
    rcases List.mem_append.mp hp with hp | hp
    · exact List.mem_append.mpr (.inl hp)
    · exact List.mem_append.mpr (.inr (List.mem_cons_of_mem _ hp))
  have B := I.base
  refine ⟨I.ok, I.os, I.bare, ⟨B.keep, B.slot, fun b o e n x => ?_, B.there, fun b ys e => ?_, fun b o u e => ?_, fun b ps e => ?_⟩, I.loc, I.cell, ?_, fun y c e => ?_, fun p hp => ?_, ?_, I.len⟩
  · rw [upd_ne (fun y => by rw [y, fresh] at e; cases e)]
    exact B.free b o e n x
  · have y := B.tups b ys e
    rw [upd_ne (ne_of_none y na)]
    exact y
  · have y := B.frzs b o u e
    rw [upd_ne (ne_of_none y na)]
    exact y
  · obtain ⟨more, y⟩ := B.tbls b ps e
    exact ⟨more, by rw [upd_ne (ne_of_none y na)]; exact y⟩
  · rw [upd_ne (Ne.symm nl)]
    exact I.free
  · have f := I.freeC y c e
    by_cases h : c = a
    · obtain ⟨v, o, ho, hd⟩ := I.cell y c e
      rw [h, ea] at ho
      cases ho
      exact absurd hd (nc _)
    · rw [upd_ne h]
      exact f
  · obtain ⟨p1, p2, p3, p4, p5⟩ := I.pin p (ins p hp)
    exact ⟨p1, by rw [upd_ne (apart p hp)]; exact p2, p3, p4, p5⟩
  · exact I.hok.laidN (fun _ _ y => y) na (heldE_ok ea z q)
/-- try: body, except x as n: suite, where the suite runs through -/
theorem ps_try_hold (hs : X.stack = X.env :: X.outer) (hf : X.env.frame = some X.env.locals) (hN : X.N.Nodup) (hi : X.N[i]? = some n) (hln : X.env.kindOf n = some .local) (hex : X.ex = []) (hc : Names X x c) (tk : Takes X Wout)
    (main : ∀ (W : WX) (pn : List (Addr × Obj)) (xe : Value → Shared → Prop), Takes (X.tr pn xe) W → PassesOwn (model X.prog X.w) X.A X.env xe → PSs (X.tr pn xe) body (tb W))
    (after : ∀ (a : Addr) (oe : Obj) (cls : Value) (d : Option Addr) (pn : List (Addr × Obj)), Zc cls d oe → (∃ vs, oe.data = .fields vs) → PSs (X.suite a ((a, oe) :: pn)) (b₀ :: suite) (ts a cls d)) :
    PS X (.Try body [.ExceptHandler (some (.Name x np)) (some n) (b₀ :: suite) pos'] [] [] pos) (fun D σ H => tb (wHold X.K c i ts Wout D) D σ H) := by
  refine ⟨fun pins s σ H D I start => ?_⟩
  have okX := I.ok
  have frm : X.A.frames = some (X.env :: X.outer) := by rw [okX.frames, hs]
  refine wpAny_Try_except (wpAny_mono ((main (wHold X.K c i ts Wout D) (X.pn ++ pins) (fun e u => wpAny (model X.prog X.w) X.A (noteFrame e X.env) (fun _ u2 => wpAny (model X.prog X.w) X.A (setFlight e none) (fun _ u3 =>
    wpAny (model X.prog X.w) X.A (handleBy e X.env [.ExceptHandler (some (.Name x np)) (some n) (b₀ :: suite) pos']) (SP X pins D) X.xe u3) X.xe u2) X.xe u) (fun eu sr air => ?_) PassesOwn.looking).run [] s σ H D (I.toTry _) start) (fun fl s1 done => ?_) (fun _ _ y => y))
  · obtain ⟨a, B, s0, ps0, τ, G, cls, d, rfl, I0, nb, upS, sky, na, osE, bare, yes, hyes, onYes, onNo⟩ := air
    have I1 : Inv X pins τ G s0 := I0.ofTry okX
    show wpAny (model X.prog X.w) X.A (noteFrame (.ref a) X.env) _ _ _
    refine Sky.land Zc.steady frm hf (hs ▸ sky) fun h3 fly up3 => ?_
    have I3 : Inv X pins τ G { sr with heap := h3 } := I1.landed nb fly.1 (upS.trans up3) osE bare
    obtain ⟨o3, v3, at3, z3, d3⟩ := fly.there
    have offs : a ∉ frs (X.env :: X.outer) := fun m => by
      obtain ⟨_, o', e', nfd⟩ := fly.2.2.1.mem m
      rw [at3] at e'
      cases e'
      exact nfd _ d3
    have offL : a ≠ X.env.locals := fun y => offs (List.mem_filterMap.mpr ⟨X.env, List.mem_cons_self, by rw [hf, y]⟩)
    have offF : a ∉ X.fs := fun m => by
      obtain ⟨e, he, y⟩ := List.mem_filterMap.mp m
      exact offs (List.mem_filterMap.mpr ⟨e, List.mem_cons_of_mem _ he, y⟩)
    -- it is younger than all that stood ahead
    have young : s0.heap.get? a = none := by
      cases y : s0.heap.get? a with
      | none => rfl
      | some o =>
        have y2 := nb a o y (by rw [hs]; exact offs)
        rw [fly.2.1] at y2
        cases y2
    have fresh : X.s_0.heap.get? a = none := by
      cases y : X.s_0.heap.get? a with
      | none => rfl
      | some o =>
        obtain ⟨o', y2⟩ := I1.base.there a o y (by rw [hex]; simp)
        rw [young] at y2
        cases y2
    have apart : ∀ p ∈ X.pn ++ pins, p.1 ≠ a := fun p hp y => by
      obtain ⟨p1, _⟩ := I1.pin p hp
      rw [y, young] at p1
      cases p1
    have J3 := I3.suite at3 d3 na offL offF
    refine wpAny_handleBy_cons (codeAny_handlers_test ?_) (by intro y; cases y)
    have kind : PySem.W.Looks (model X.prog X.w) h3 (typeOf (.ref a)) cls := fun _ _ _ _ keep y => wpAny_typeOf_ref (keep _ _ at3) (by rw [z3.1]; exact y)
    have match_ := PySem.W.exm_one (M := model X.prog X.w) I3.kIn kind hyes
    have named : ∀ {R : Value → Shared → Prop} {E : Value → Shared → Prop}, R c { sr with heap := h3 } → wpAny (model X.prog X.w) (X.A.mark (some (.ref a))) (eval (.Name x np) X.env) R E { sr with heap := h3 } := fun {R E} y => by
      obtain ⟨g, dbg, own | ⟨no, bt, nn⟩⟩ := hc
      · exact ld_glob (X := X.suite a ((a, o3) :: (X.pn ++ pins))) J3 g own y dbg
      · exact ld_blt (X := X.suite a ((a, o3) :: (X.pn ++ pins))) J3 g no bt y nn dbg
    refine named (match_.here ?_)
    cases yes with
    | true =>
      refine codeAny_handlers_suite_as (HandSPX.lands_againZ fly fun h4 fly4 up4 => ?_)
      have I4 : Inv X pins τ G { sr with heap := h4 } := I1.landed nb fly4.1 ((upS.trans up3).trans up4) osE bare
      obtain ⟨o4, v4, at4, z4, d4⟩ := fly4.there
      refine store_ok (X := X.suite a ((a, o4) :: (X.pn ++ pins))) (v := .ref a) (I4.suite at4 d4 na offL offF) hN hi (.inl hln) rfl (fun s5 I5 => ?_) (.inr hln)
      refine wpAny_mono ((after a o4 cls d (X.pn ++ pins) z4 ⟨_, d4⟩).run [] s5 _ G _ I5 (onYes rfl a na)) (fun fl s6 y => ?_) (fun _ _ y => False.elim y)
      match fl, y with
      | .next, ⟨τ6, G6, I6, q6⟩ =>
        have I6' : Inv X ((a, o4) :: pins) τ6 G6 s6 := by
          have u := I6.unsuite (q := (a, o4)) okX
          exact ⟨u.ok, u.os, u.bare, u.base, u.loc, u.cell, u.free, u.freeC, fun p hp => by
            rcases List.mem_append.mp hp with hp | hp
            · exact u.pin p (List.mem_append.mpr (.inl hp))
            · rcases List.mem_cons.mp hp with rfl | hp
              · exact I6.pin _ (List.mem_append.mpr (.inl List.mem_cons_self))
              · exact u.pin p (List.mem_append.mpr (.inr hp)), u.hok, u.len⟩
        exact gone_ok I6' hN hi hln fun s7 I7 => ⟨_, _, hold_end I7 z4 d4 fresh apart, q6⟩
      | .ret u, ⟨_, _, _, _, _, q6⟩ => exact q6.elim
      | .brk, ⟨_, _, _, q6⟩ => exact q6.elim
      | .cont, ⟨_, _, _, q6⟩ => exact q6.elim
    | false =>
      show wpAny _ X.A (handleBy (.ref a) X.env []) _ _ _
      refine wpAny_handleBy_nil ?_
      obtain ⟨_, _, _, oe, vs, T, oT, tr, he, hz, hd, hT, _⟩ := id fly
      have up : wpAny (model X.prog X.w) X.A (setFlight (.ref a) X.env.frame) (fun _ u => wpAny (model X.prog X.w) X.A (throw (.ref a) : Sem Flow) (SP X pins D) X.xe u) X.xe { sr with heap := h3 } := by
        rw [hf]
        exact HandSPX.setFlight_upZ fly fun h4 held up4 => wpAny_throw (tk _ _ ⟨a, B, s0, pins, τ, G, cls, d, rfl, I1, nb, (upS.trans up3).trans up4, .inr (.inr (by rw [hs]; exact held)), na, osE, bare, onNo rfl⟩)
      unfold PySem.passOn
      refine wpAny_bind (wpAny_field he hd hT ?_)
      rw [if_neg (show ¬ ((Value.ref T == Value.none) = true) from by simp)]
      first
        | exact wpAny_bind (wpAny_pure (wpAny_bind up))
        | exact wpAny_bind up
  · match fl, done with
    | .next, ⟨τ, G, J, q⟩ => exact wpAny_execs_nil ⟨τ, G, J.ofTry okX, q⟩
    | .brk, ⟨τ, G, J, q⟩ => exact ⟨τ, G, J.ofTry okX, q⟩
    | .cont, ⟨τ, G, J, q⟩ => exact ⟨τ, G, J.ofTry okX, q⟩
    | .ret u, ⟨v, τ, G, J, r, q⟩ => exact ⟨v, τ, G, J.ofTry okX, r, q⟩
/-- isinstance(e, c) of an error that is held -/
def rIsHeld (K : PySem.W.Frag) (D : Addr) : List V → Hp → VK → Prop := fun xs H Q => ∃ (a : Addr) (c : V) (cv : Value) (b : Bool), xs = [.ref a, c] ∧ H a = some (HeldE (.ref D) none a) ∧ ClsV c cv ∧ PySem.W.kitOne K (.ref D) cv = some b ∧ Q (.bl b) H
theorem held_at {pins : List (Addr × Obj)} {σ : L2.St} {H : Hp} {s : Shared} {a D : Addr} (I : Inv X pins σ H s) (h : H a = some (HeldE (.ref D) none a)) : ∃ oe, PySem.W.InstAt s.heap a oe D none := by
  obtain ⟨⟨oe, vs, e, ⟨c1, c2⟩, dd⟩, _⟩ := (show ObjOk X.prog X.w H s.heap a (HeldE (.ref D) none a) from I.hok a _ h)
  obtain ⟨oc, od, oda, osl⟩ := oe
  dsimp only at c1 c2 dd
  subst c1 c2 dd
  exact ⟨_, e, rfl, rfl, trivial⟩
theorem call_isHeld {D : Addr} (C : L2.ExcC X.K D) : CallR X (.builtin "isinstance") (rIsHeld X.K D) := by
  intro pins s σ H xs us Q I r h
  obtain ⟨a, c, cv, b, rfl, ha, k, e, q⟩ := h
  obtain ⟨u1, u2, rfl, r1, r2⟩ := vals2 r
  cases (show u1 = Value.ref a from r1)
  have e2 := k.eq r2
  subst e2
  obtain ⟨oe, J⟩ := held_at I ha
  exact PySem.W.kia_one (PySem.W.handS_kitx_exc C.hg C.hk C.hs C.hd C.ha C.hn C.ht C.hm) I.kIn J e (fun y => nomatch y) fun tk => ⟨.bl b, H, I.tok tk, rfl, q⟩
/-- the same, a tuple of classes that was just laid -/
def rIsHeldT (K : PySem.W.Frag) (D : Addr) : List V → Hp → VK → Prop := fun xs H Q => ∃ (a tp : Addr) (cs : List V) (cvs : List Value) (b : Bool), xs = [.ref a, .ref tp] ∧ H a = some (HeldE (.ref D) none a) ∧ H tp = some (.tup cs) ∧ Paired ClsV cs cvs ∧ PySem.W.kitAny K (.ref D) cvs = some b ∧ Q (.bl b) H
theorem call_isHeldT {D : Addr} (C : L2.ExcC X.K D) : CallR X (.builtin "isinstance") (rIsHeldT X.K D) := by
  intro pins s σ H xs us Q I r h
  obtain ⟨a, tp, cs, cvs, b, rfl, ha, ht, k, e, q⟩ := h
  obtain ⟨u1, u2, rfl, r1, r2⟩ := vals2 r
  cases (show u1 = Value.ref a from r1)
  cases (show u2 = Value.ref tp from r2)
  obtain ⟨oe, J⟩ := held_at I ha
  obtain ⟨its, rv, ⟨o, h1, h2, n, h3⟩, _⟩ := I.tuple (SqT.of ht)
  have e3 := ClsV.all k rv
  subst e3
  obtain ⟨oc, od, dt, sl⟩ := o
  simp only at h2 h3
  subst h2 h3
  exact PySem.W.kia_tup (PySem.W.handS_kitx_exc C.hg C.hk C.hs C.hd C.ha C.hn C.ht C.hm) I.kIn J h1 e (fun y => nomatch y) fun tk => ⟨.bl b, H, I.tok tk, rfl, q⟩
end
end Af

set_option Elab.async false
set_option linter.all false
set_option maxRecDepth 100000
namespace Af
open PySem PySem.Spec PyProof.Rows L2
/-! a def that asks repr, called where no repr is under way; repr of data of any kind -/
structure CalG (P : Program) (w : World) (K : PySem.W.Frag) (mg : Str → Option Value) (base : Heap) (k : Nat) (x : Str) (ps : List Str) (sp : Sp) : Prop where
  ex : ∃ (f : Addr) (fd : FuncData), FnG P w K mg base k f fd ps sp ∧ mg x = some (.ref f) ∧ PySem.W.keepIn K (.ref f) = true ∧ Binds K fd ps []
section
variable {X : Cx} {k j : Nat} {x : Str} {ps : List Str} {sp : Sp} {e : Expr} {es : List Expr} {t : TA} {p pos : Pos}
theorem pe_calG (c : CalG X.prog X.w X.K X.mg X.base k x ps sp) (room : Room j X.A) (quiet : X.A.guards = some []) (ha : PA X (e :: es) t) (hkj : k ≤ j := by decide) (hg : Gl X x := by rfl) (dbg : (x == ("__debug__" : Str)) = false := by decide)
    (he : starEach (e :: es) X.env = (false, eval e X.env) :: starEach es X.env := by rfl) (pl : (backTo pos (starEach es X.env)).any (·.1) = false := by rfl) :
    PE X (.Call (.Name x p) (e :: es) [] pos) (tCal sp t) := by
  obtain ⟨f, fd, G, m, kp, b⟩ := c.ex
  refine ⟨fun pins s σ H Q I h => wpAny_Call_Name_kw (ld_glob I hg m (PySem.W.callWith_K (h₀ := X.base) I.ok.mod.kin kp (thn (ha.run pos pins s σ H _ I h) fun us s1 z => ?_) he pl) dbg)⟩
  obtain ⟨vs, H1, I1, r, q⟩ := z
  refine ⟨I1.kIn, ?_⟩
  have nl : us.length = ps.length := by
    rw [← r.length]
    exact G.many _ _ _ _ q
  have bb := b s1 us I1.kIn (by rw [List.append_nil]; exact nl)
  rw [List.append_nil] at bb
  refine wpAny_call (codeAny_mono (G.goes X.A X.stack s1 H1 ⟨us, []⟩ us vs Q E0 (room.mono hkj) quiet I1.env0 bb r q) fun r s' z => ?_)
  match r, z with
  | .error e, z => exact pass0 pins σ H1 s1 e s' I1 z
  | .ok (.ret u), z => exact I1.after z
  | .ok .next, z => exact (show False from z).elim
  | .ok .brk, z => exact (show False from z).elim
  | .ok .cont, z => exact (show False from z).elim
end
section
variable {X : Cx} {pins : List (Addr × Obj)} {σ : L2.St} {H : Hp} {s : Shared}
def rReprL (K : PySem.W.Frag) : List V → Hp → VK → Prop := fun xs H Q => ∃ (a : Addr) (vs : List V) (ds : List PyData), xs = [.ref a] ∧ H a = some (.lst vs) ∧ DqAll K H vs ds ∧ PyData.showableAll ds = true ∧ PyData.depthAll ds ≤ 60 ∧ (PyData.list ds).shown.length ≤ sizeLine ∧ Q (.str (PyData.list ds).shown) H
/-- repr of a list of data -/
theorem call_reprL (hg : X.A.guards = some []) (hu : X.A.units + 64 < cLine) : CallR X (.builtin "repr") (rReprL X.K) := by
  intro pins s σ H xs us Q I r h
  obtain ⟨a, vs, ds, rfl, hs, hd, sh, dp, sz, q⟩ := h
  obtain ⟨u, rfl, ru⟩ := vals1 r
  cases (show u = Value.ref a from ru)
  obtain ⟨its, rv, ⟨o, n, ho, hc, _, hdd⟩, _⟩ := I.list (SqL.of hs)
  have sz' : (listText (PyData.shownAll ds)).length ≤ sizeLine := by simpa only [PyData.shown] using sz
  obtain ⟨as, bs, hr, hb, hk⟩ := Dq.seesAll I ds vs its hd rv sh fun t ht => Nat.le_trans (listText_mem_le ht) sz'
  have rd : Reads s.heap (.ref a) (.list ds) _ := .list ho hc hdd hr
  have new : a ∉ bs := not_mem_of_deeper rd (by simp only [PyData.depth]; omega) hb
  have txt : (PyData.list ds).shown = listText (PyData.shownAll ds) := by simp only [PyData.shown]
  refine call_repr_slot (T := "list") (by omega) ⟨o, ho, hc⟩ PySem.F.slot_list_repr.toG ?_
  cases its with
  | nil =>
    cases hr
    have e0 : (PyData.list []).shown = ("[]" : Str) := by simp only [PyData.shown, PyData.shownAll, listText_nil]
    refine call_list_repr_empty ⟨o, ho, hc⟩ ho hdd ⟨_, _, rfl, .str (PyData.list []).shown, H, ?_, ⟨_, by rw [e0]⟩, q⟩
    exact I.kept (t' := _) fun _ _ y => y
  | cons y l =>
    refine call_list_reprK ho hc hdd new (by simpa using hk.length_eq) (fun i y e => hk.item i y (by simpa using e)) hg (fun b _ => Clear.nil b) (by show X.A.units + 1 + (PyData.depthAll ds + 1) < cLine; omega) (fun _ _ e => e) (fun h' u tk keep => ?_) sz'
    refine ⟨_, _, rfl, .str (PyData.list ds).shown, H, I.kept keep, ⟨u, ?_⟩, q⟩
    simp only [PyData.shown]
end
end Af

set_option Elab.async false
set_option linter.all false
set_option maxRecDepth 100000
namespace Af
open PySem PySem.Spec PyProof.Rows L2
/-! xs.count(None), exactly; repr of a thing of any kind -/
def rCntX (K : PySem.W.Frag) : V → List V → Hp → VK → Prop := fun x xs H Q => ∃ (p : Addr) (ys : List V) (ds : List PyData), x = .ref p ∧ xs = [.non] ∧ SqL K H p ys ∧ DpAll K H ys ds ∧ PyData.canLayAll0 ds = true ∧ Q (.int ((ds.countP (fun y => PyData.eqv y .none) : Nat) : Int)) H
theorem mt_countX {X : Cx} (hu : X.A.units + 1 < cLine) : MtR X "list.count" (rCntX X.K) := by
  intro pins s σ H x xs v us Q I rx rxs h
  obtain ⟨p, ys, ds, rfl, rfl, hs, hd, hl, q⟩ := h
  cases (show v = Value.ref p from rx)
  obtain ⟨u, rfl, ru⟩ := rxs.one
  cases (show u = Value.none from ru)
  obtain ⟨its, rv, pl, _⟩ := I.list hs
  obtain ⟨as, rs⟩ := Dp.readsAll I ds ys its hd rv
  refine PySem.SeqAt.count_list_data (d := .none) (vs := its.toArray) pl.isList (by simpa using rs) Reads.none (PyData.plainAll_of_canLay0 _ hl) rfl (by show X.A.units + 1 + min _ 0 < cLine; omega) ?_
  exact ⟨.int (ds.countP (fun y => PyData.eqv y .none) : Nat), H, I.tok _, ⟨_, rfl⟩, q⟩
/-- the barriers among these steps -/
def bars (l : List Stp) : Nat := l.countP fun s => s.isNone
theorem bars_count : ∀ l : List Stp, (stepsD l).countP (fun y => PyData.eqv y .none) = bars l
  | [] => rfl
  | a :: l => by
    have e : stepsD (a :: l) = stepD a :: stepsD l := rfl
    unfold bars
    rw [e, List.countP_cons, List.countP_cons, bars_count l]
    cases a with
    | none => rfl
    | some fw =>
      obtain ⟨f, ws⟩ := fw
      rfl
theorem bars_app (a b : List Stp) : bars (a ++ b) = bars a + bars b := List.countP_append ..
/-- repr of data that is no list, tuple or dict -/
def rReprF : List V → Hp → VK → Prop := fun xs H Q => ∃ (x : V) (d : PyData), xs = [x] ∧ (∀ K, Dq K H x d) ∧ flatD d = true ∧ (∀ kvs, d ≠ .dict kvs) ∧ Q (.str d.shown) H
theorem call_reprF {X : Cx} (hg : X.A.guards = some []) (hu : X.A.units + 64 < cLine) : CallR X (.builtin "repr") rReprF := by
  intro pins s σ H xs us Q I r h
  obtain ⟨x, d, rfl, hd, fl, nd, q⟩ := h
  obtain ⟨u, rfl, ru⟩ := vals1 r
  obtain ⟨tx, sh, dp⟩ := flat_len fl
  cases hd X.K with
  | int i =>
    obtain ⟨t, rfl⟩ := ru
    have lg : i.natAbs.log2 < 1920 := of_decide_eq_true (show decide (i.natAbs.log2 < 1920) = true from by simpa only [PyData.showable] using sh)
    refine PySem.P.repr_of_int lg ⟨.str _, H, I.tok _, ⟨_, rfl⟩, ?_⟩
    simpa only [PyData.shown] using q
  | non =>
    cases (show u = Value.none from ru)
    refine PySem.P.repr_of_none ⟨.str _, H, I.tok _, ⟨_, rfl⟩, ?_⟩
    simpa only [PyData.shown] using q
  | bl b =>
    cases (show u = Value.bool b from ru)
    refine PySem.P.repr_of_bool ⟨.str (PyData.bool b).shown, H, I.tok _, ⟨s.toks, ?_⟩, q⟩
    cases b <;> simp only [PyData.shown] <;> rfl
  | str z =>
    obtain ⟨t, rfl⟩ := ru
    refine PySem.P.repr_of_str ⟨.str (PyData.str z).shown, H, I.tok _, ⟨s.toks, ?_⟩, q⟩ ?_
    · simp only [PyData.shown]
    have := of_decide_eq_true fl
    exact Nat.le_trans this (by decide)
  | lst e t => cases fl
  | tup e t => cases fl
  | dic e => exact absurd rfl (nd _)
end Af

set_option Elab.async false
set_option linter.all false
set_option maxRecDepth 100000
set_option maxHeartbeats 4000000
namespace Af
open PySem L2
/-- the epoch of each step -/
def eps : Nat → List Stp → List Int
  | _, [] => []
  | k, s :: r => (k : Int) :: eps (if s.isNone = true then k + 1 else k) r
theorem eps_len : ∀ (l : List Stp) (k : Nat), (eps k l).length = l.length
  | [], _ => rfl
  | a :: l, k => by
    show (eps _ l).length + 1 = l.length + 1
    rw [eps_len l]
theorem eps_snoc (s : Stp) : ∀ (l : List Stp) (k : Nat), eps k (l ++ [s]) = eps k l ++ [((k + bars l : Nat) : Int)]
  | [], k => rfl
  | a :: l, k => by
    show (k : Int) :: eps _ (l ++ [s]) = (k : Int) :: (eps _ l ++ [((k + bars (a :: l) : Nat) : Int)])
    rw [eps_snoc s l]
    have e : bars (a :: l) = bars l + (if a.isNone = true then 1 else 0) := by
      unfold bars
      rw [List.countP_cons]
    rw [e]
    congr 3
    cases a with
    | none =>
      show (((k + 1 + bars l : Nat) : Int)) = ((k + (bars l + 1) : Nat) : Int)
      omega
    | some _ =>
      show (((k + bars l : Nat) : Int)) = ((k + (bars l + 0) : Nat) : Int)
      omega
theorem eps_take {l : List Stp} {i : Nat} {s : Stp} (h : l[i]? = some s) : eps 0 (l.take (i + 1)) = eps 0 (l.take i) ++ [((bars (l.take i) : Nat) : Int)] := by
  rw [List.take_add_one, h]
  show eps 0 (l.take i ++ [s]) = _
  rw [eps_snoc, Nat.zero_add]
theorem bars_take {l : List Stp} {i : Nat} {s : Stp} (h : l[i]? = some s) : bars (l.take (i + 1)) = bars (l.take i) + (if s.isNone = true then 1 else 0) := by
  rw [List.take_add_one, h]
  show bars (l.take i ++ [s]) = _
  rw [bars_app]
  congr 1
  unfold bars
  rw [List.countP_singleton]
def sp_epochsX : Sp := fun vs H Q _ => ∃ (a : Addr) (xs : List V) (sts : List Stp), vs = [.ref a] ∧ H a = some (.lst xs) ∧ Paired (StepV H) xs sts ∧ xs.length ≤ 100 ∧ ∀ l H', Same H H' → H l = none → H' l = some (.lst (ivs (eps 0 sts))) → Q (.ref l) H'
section
variable {P : Program} {w : World} {K : PySem.W.Frag} {mg : Str → Option Value} {base : Heap}
theorem ok_epochsX {f : Addr} {fd : FuncData} (F : Fun K "_epochs_of" "_epochs_of" s_epochs_of f fd) (T : Txt mg) : FnOk P w K mg base CX0 1 f fd ["steps"] sp_epochsX := by
  refine F.ok sc_epochs_of (fun vs H Q E h => ?_) (fun cdv A outer s H vs Q E hr h => ?_)
  · obtain ⟨_, _, _, rfl, _⟩ := h
    rfl
  obtain ⟨a, xs, sts, rfl, ha, hst, xl, k⟩ := h
  have hlen := paired_len hst
  refine ⟨_, (pss_cons (ps_par (i := 1) (j := 2) rfl sc_epochs_of.nd rfl rfl (by decide) rfl rfl (pa_cons (pe_lst' pa_nil) (pa_cons pe_int pa_nil)) (by rfl))
    (pss_cons (ps_for PassesOwn.never rfl (pi_list (pv 0)) (pg_name (i := 3) sc_epochs_of.nd rfl (Or.inl rfl))
      (pss_cons (ps_expr (pe_bm PySem.F.plainAttrs_list PySem.F.slot_list_append PySem.F.type_list_append mt_append (pv 1) (pa_cons (pv 2) pa_nil)))
    (pss_one (ps_if (pt_cmpR op_isN (pv 3) pe_non (nomark _))
      (pss_one (ps_aug (i := 2) sc_epochs_of.nd rfl (Or.inl rfl) pe_int ip_add))
      pss_nil))))
    (pss_one (ps_ret (pv 1))))), ?_⟩
  refine ⟨szr, fun el H1 hel s1 h1 => ⟨_, _, rfl, ?_⟩⟩
  refine ⟨_, rfl, a, rfl, ⟨xs, SqL.of (s1 _ _ ha)⟩, for_list (K := K) (a := a) (xs := xs) (fun i σ' H' => ∃ (v : Option V), σ' = [some (.ref a), some (.ref el), some (.int ((bars (sts.take i) : Nat) : Int)), v] ∧ Same H H' ∧ H' el = some (.lst (ivs (eps 0 (sts.take i))))) ?_ ?_ ?_ ?_⟩
  · exact ⟨none, rfl, s1, h1⟩
  · rintro i σ' H' _ ⟨v, rfl, s2, _⟩
    exact SqL.of (s2 _ _ ha)
  · rintro i x σ' H' hx ⟨v, rfl, s2, h2⟩
    have hi : i < xs.length := (List.getElem?_eq_some_iff.mp hx).1
    obtain ⟨st, hs1, hs2⟩ := paired_get hst hx
    have et := eps_take hs1
    have bt := bars_take hs1
    refine ⟨_, rfl, .inl ⟨rfl, _, SqL.of h2⟩, _, rfl, el, _, _, rfl, rfl, h2, szl (by rw [ivs_len, eps_len, List.length_take]; omega), ?_⟩
    have e2 : (upd H' el (.lst (ivs (eps 0 (sts.take i)) ++ [.int ((bars (sts.take i) : Nat) : Int)]))) el = some (.lst (ivs (eps 0 (sts.take (i + 1))))) := by
      rw [upd_same, et]
      unfold ivs
      rw [List.map_append]
      rfl
    cases st with
    | none =>
      have e : x = .non := hs2
      subst e
      refine ⟨_, rfl, rfl, _, rfl, iteT ?_⟩
      refine ⟨_, rfl, _, _, rfl, rfl, some .non, ?_, same_mut s2 hel, e2⟩
      rw [bt]
      rfl
    | some fw =>
      obtain ⟨f, ws⟩ := fw
      obtain ⟨t, b, e, _, _⟩ := hs2
      subst e
      refine ⟨_, rfl, rfl, _, rfl, iteF ⟨some (.ref t), ?_, same_mut s2 hel, e2⟩⟩
      rw [bt]
      rfl
  · rintro σ' H' ⟨v, rfl, s2, h2⟩
    rw [hlen, List.take_length] at h2
    exact ⟨_, rfl, k el H' s2 hel h2⟩
end
end Af

set_option Elab.async false
set_option linter.all false
set_option maxRecDepth 100000
namespace Af
open PySem L2
abbrev s_is_integer : Stmt := top 9
abbrev N_is_integer : List Str := ["thing"]
theorem sc_is_integer : FnScope N_is_integer ["thing"] (defScope s_is_integer) := ⟨rfl, rfl, rfl, by decide +kernel, rfl, by decide +kernel, by decide +kernel⟩

abbrev s_is_index : Stmt := top 10
abbrev N_is_index : List Str := ["thing", "many"]
theorem sc_is_index : FnScope N_is_index ["thing", "many"] (defScope s_is_index) := ⟨rfl, rfl, rfl, by decide +kernel, rfl, by decide +kernel, by decide +kernel⟩

abbrev s_are_worths : Stmt := top 15
abbrev N_are_worths : List Str := ["thing", "part"]
theorem sc_are_worths : FnScope N_are_worths ["thing"] (defScope s_are_worths) := ⟨rfl, rfl, rfl, by decide +kernel, rfl, by decide +kernel, by decide +kernel⟩

abbrev s_is_content : Stmt := top 16
abbrev N_is_content : List Str := ["thing"]
theorem sc_is_content : FnScope N_is_content ["thing"] (defScope s_is_content) := ⟨rfl, rfl, rfl, by decide +kernel, rfl, by decide +kernel, by decide +kernel⟩

abbrev s_is_width : Stmt := top 23
abbrev N_is_width : List Str := ["thing"]
theorem sc_is_width : FnScope N_is_width ["thing"] (defScope s_is_width) := ⟨rfl, rfl, rfl, by decide +kernel, rfl, by decide +kernel, by decide +kernel⟩

abbrev s_is_step : Stmt := top 24
abbrev N_is_step : List Str := ["cells", "thing", "first", "worths"]
theorem sc_is_step : FnScope N_is_step ["cells", "thing"] (defScope s_is_step) := ⟨rfl, rfl, rfl, by decide +kernel, rfl, by decide +kernel, by decide +kernel⟩

abbrev s_are_steps : Stmt := top 29
abbrev N_are_steps : List Str := ["cells", "width", "thing", "step"]
theorem sc_are_steps : FnScope N_are_steps ["cells", "width", "thing"] (defScope s_are_steps) := ⟨rfl, rfl, rfl, by decide +kernel, rfl, by decide +kernel, by decide +kernel⟩

/-- the module's constants -/
structure Cst (K : PySem.W.Frag) (mg : Str → Option Value) : Prop where
  cells : ∃ t, mg "MOST_CELLS" = some (.int 24 t)
  steps : ∃ t, mg "MOST_STEPS" = some (.int 40 t)
  pieces : ∃ t, mg "MOST_PIECES" = some (.int 40 t)
  worths : ∃ a, mg "ALL_WORTHS" = some (.ref a) ∧ ∀ H, SqT K H a (ivs [0, 1, 2, 3, 4, 5, 6, 7])
def sp_is_integer (K : PySem.W.Frag) : Sp := fun vs H Q _ => ∃ x n, vs = [x] ∧ Ty K H x n ∧ Q (.bl (decide (n = "int"))) H
def sp_is_index (K : PySem.W.Frag) : Sp := fun vs H Q _ => ∃ (x : V) (m : Int) (n : String), vs = [x, .int m] ∧ Ty K H x n ∧ Q (.bl (idxB m x)) H
def sp_is_width (K : PySem.W.Frag) : Sp := fun vs H Q _ => ∃ x n, vs = [x] ∧ Ty K H x n ∧ Q (.bl (widthB x)) H
def sp_are_worths (K : PySem.W.Frag) : Sp := fun vs H Q _ => ∃ x, vs = [x] ∧ Th K H 1 x ∧ ∀ H', Same H H' → Q (.bl (worthsB H x)) H'
def sp_is_content (K : PySem.W.Frag) : Sp := fun vs H Q _ => ∃ x, vs = [x] ∧ Th K H 1 x ∧ ∀ H', Same H H' → Q (.bl (contentB H x)) H'
def sp_is_step (K : PySem.W.Frag) : Sp := fun vs H Q _ => ∃ (m : Int) (x : V), vs = [.int m, x] ∧ Th K H 2 x ∧ ∀ H', Same H H' → Q (.bl (stepB H m x)) H'
def sp_are_steps (K : PySem.W.Frag) (spr : Sp) : Sp := fun vs H Q _ => ∃ (m wd : Int) (x : V), vs = [.int m, .int wd, x] ∧ Th K H 3 x ∧ (stepsB H m x = false → ∀ H', Same H H' → Q (.bl false) H') ∧ (stepsB H m x = true → ∀ H', Same H H' → spr [.int wd, x] H' Q E0)
section
variable {P : Program} {w : World} {K : PySem.W.Frag} {mg : Str → Option Value} {base : Heap}
theorem ok_is_integer {f : Addr} {fd : FuncData} (F : Fun K "is_integer" "is_integer" s_is_integer f fd) (T : Txt mg) : FnOk P w K mg base CX0 1 f fd ["thing"] (sp_is_integer K) := by
  refine F.ok sc_is_integer (fun vs H Q E h => ?_) (fun cdv A outer s H vs Q E hr h => ?_)
  · obtain ⟨_, _, rfl, _⟩ := h
    rfl
  obtain ⟨x, n, rfl, t, k⟩ := h
  refine ⟨_, (pss_one (ps_ret (pe_and (pe_callB call_isi' (by rfl) T.isinstance (by decide +kernel) (pa_cons (pv 0) (pa_cons (pe_bltn (v := .ty "int") (by rfl) T.int (by decide +kernel) rfl) pa_nil))) (pe_one (pe_not (pe_callB call_isi' (by rfl) T.isinstance (by decide +kernel) (pa_cons (pv 0) (pa_cons (pe_bltn (v := .ty "bool") (by rfl) T.bool (by decide +kernel) rfl) pa_nil)))))))), ?_⟩
  refine ⟨_, rfl, x, n, "int", rfl, t, by decide, _, rfl, ?_⟩
  cases c : isB n "int" with
  | true =>
    refine ⟨_, rfl, x, n, "bool", rfl, t, by decide, _, rfl, ?_⟩
    rw [int_one n t.mem c]
    exact k
  | false =>
    rw [int_two n t.mem c] at k
    exact k
theorem ok_is_index {f : Addr} {fd : FuncData} (F : Fun K "is_index" "is_index" s_is_index f fd) (T : Txt mg) (c_is_integer : Cal P w K mg base 1 "is_integer" ["thing"] (sp_is_integer K)) : FnOk P w K mg base CX0 2 f fd ["thing", "many"] (sp_is_index K) := by
  refine F.ok sc_is_index (fun vs H Q E h => ?_) (fun cdv A outer s H vs Q E hr h => ?_)
  · obtain ⟨_, _, _, rfl, _⟩ := h
    rfl
  obtain ⟨x, m, n, rfl, t, k⟩ := h
  refine ⟨_, (pss_one (ps_ret (pe_and (pe_cal c_is_integer hr (pa_cons (pv 0) pa_nil)) (pe_one (pe_chain op_le op_lt pe_int (pv 0) (pv 1)))))), ?_⟩
  refine ⟨_, rfl, x, n, rfl, t, _, rfl, ?_⟩
  by_cases c : n = "int"
  · rw [decide_eq_true c]
    obtain ⟨i, rfl⟩ := ty_int t c
    refine ⟨_, rfl, _, _, rfl, rfl, _, rfl, ?_⟩
    have e : idxB m (.int i) = (decide (0 ≤ i) && decide (i < m)) := rfl
    rw [e] at k
    cases c2 : decide ((0 : Int) ≤ i) with
    | true =>
      rw [c2] at k
      exact ⟨_, rfl, _, _, rfl, rfl, k⟩
    | false =>
      rw [c2] at k
      exact k
  · rw [decide_eq_false c]
    rw [idx_not (no_int t c)] at k
    exact k
theorem ok_is_width {f : Addr} {fd : FuncData} (F : Fun K "is_width" "is_width" s_is_width f fd) (T : Txt mg) (C : Cst K mg) (c_is_integer : Cal P w K mg base 1 "is_integer" ["thing"] (sp_is_integer K)) : FnOk P w K mg base CX0 2 f fd ["thing"] (sp_is_width K) := by
  obtain ⟨tk, c_MOST_CELLS⟩ := C.cells
  refine F.ok sc_is_width (fun vs H Q E h => ?_) (fun cdv A outer s H vs Q E hr h => ?_)
  · obtain ⟨_, _, rfl, _⟩ := h
    rfl
  obtain ⟨x, n, rfl, t, k⟩ := h
  refine ⟨_, (pss_one (ps_ret (pe_and (pe_cal c_is_integer hr (pa_cons (pv 0) pa_nil)) (pe_one (pe_chain op_le op_le pe_int (pv 0) (pe_glob (v := .int 24) rfl c_MOST_CELLS ⟨_, rfl⟩)))))), ?_⟩
  refine ⟨_, rfl, x, n, rfl, t, _, rfl, ?_⟩
  by_cases c : n = "int"
  · rw [decide_eq_true c]
    obtain ⟨i, rfl⟩ := ty_int t c
    refine ⟨_, rfl, _, _, rfl, rfl, _, rfl, ?_⟩
    have e : widthB (.int i) = (decide (1 ≤ i) && decide (i ≤ 24)) := rfl
    rw [e] at k
    cases c2 : decide ((1 : Int) ≤ i) with
    | true =>
      rw [c2] at k
      exact ⟨_, _, rfl, rfl, k⟩
    | false =>
      rw [c2] at k
      exact k
  · rw [decide_eq_false c]
    rw [width_not (no_int t c)] at k
    exact k
theorem ok_are_worths {f : Addr} {fd : FuncData} (F : Fun K "are_worths" "are_worths" s_are_worths f fd) (T : Txt mg) (C : Cst K mg) (c_is_index : Cal P w K mg base 2 "is_index" ["thing", "many"] (sp_is_index K)) : FnOk P w K mg base CX0 3 f fd ["thing"] (sp_are_worths K) := by
  obtain ⟨aw, aw_m, aw_s⟩ := C.worths
  refine F.ok sc_are_worths (fun vs H Q E h => ?_) (fun cdv A outer s H vs Q E hr h => ?_)
  · obtain ⟨_, rfl, _⟩ := h
    rfl
  obtain ⟨x, rfl, th, k⟩ := h
  obtain ⟨n, t⟩ := th.ty
  refine ⟨_, (pss_cons (ps_cut (ps_if (PW.pt (pw_or (pt_not (pt_val (pe_callB call_isi' (by rfl) T.isinstance (by decide +kernel) (pa_cons (pv 0) (pa_cons (pe_bltn (v := .ty "tuple") (by rfl) T.tuple (by decide +kernel) rfl) pa_nil))))) (pw_or1 (pt_not (pt_truth (pv 0) (by intro _; rfl))))))
      (pss_one (ps_ret pe_bl))
      pss_nil))
    (pss_one (ps_ret (pe_callB (cr_all rfl) (by rfl) T.all (by decide +kernel) (pa_cons (pe_lc (own := [("part", 1)]) (g := (gName 1)) (tt := tYes) rfl sc_are_worths.nd (pi_tup (pv 0)) (blkOk_by (own := [("part", 1)]) (N := N_are_worths) (sc := defScope s_are_worths) (by decide +kernel)) (fun _ _ _ _ _ => pg_name (i := 1) sc_are_worths.nd rfl (Or.inl rfl)) (fun _ _ _ _ _ => pts_nil) (fun _ _ _ _ _ => (pe_cal c_is_index hr (pa_cons (pv 1) (pa_cons (pe_callB (r := rLenK K) call_lenK (by rfl) T.len (by decide +kernel) (pa_cons (pe_glob (v := .ref aw) rfl aw_m rfl) pa_nil)) pa_nil))))) pa_nil))))), ?_⟩
  refine ⟨fun σ' H' => ∃ a xs, x = .ref a ∧ H a = some (.tup xs) ∧ xs ≠ [] ∧ σ' = [some x, none] ∧ H = H', ?_, ?_⟩
  · refine ⟨_, rfl, x, n, "tuple", rfl, t, by decide, _, rfl, ?_⟩
    by_cases c : n = "tuple"
    · obtain ⟨a, xs, rfl, ha⟩ := ty_tup t c
      have e : (!isB n "tuple") = false := by rw [c]; decide
      rw [e]
      refine ⟨_, rfl, !xs.isEmpty, .inr (.inl ⟨xs, SqT.of ha, rfl⟩), ?_⟩
      cases xs with
      | nil =>
        have z := k H (Same.refl H)
        rw [worths_at ha] at z
        exact z
      | cons y ys => exact ⟨a, _, rfl, ha, by simp, rfl, rfl⟩
    · rw [tup_not n t.mem c]
      have z := k H (Same.refl H)
      rw [worths_not t c] at z
      exact z
  · rintro _ _ ⟨a, xs, rfl, ha, hne, rfl, rfl⟩
    obtain ⟨hl, hy⟩ := th.2 a xs rfl (.inl ha)
    refine ⟨_, rfl, a, rfl, ⟨xs, SqT.of ha⟩, fun D hD => lc_tup (K := K) (a := a) (xs := xs) (fun i H' => Same H H' ∧ H' D = some (.lst ((xs.take i).map fun y => V.bl (idxB 8 y)))) ?_ ?_ ?_ ?_⟩
    · exact ⟨same_new hD, upd_same⟩
    · rintro i H' _ ⟨s1, _⟩
      exact SqT.of (s1 _ _ ha)
    · rintro i y H' hx ⟨s1, h1⟩
      obtain ⟨n1, t1⟩ := (hy y (List.mem_of_getElem? hx)).ty
      have il : i < xs.length := (List.getElem?_eq_some_iff.mp hx).1
      refine ⟨rfl, _, rfl, aw, _, rfl, .inr (aw_s H'), y, 8, n1, rfl, t1.same s1, _, h1, ?_, same_mut s1 hD, ?_⟩
      · rw [List.length_map, List.length_take]
        exact szl (by omega)
      · rw [upd_same, List.take_add_one, hx]
        simp
    · rintro H' ⟨s1, h1⟩
      rw [List.take_length] at h1
      have z := k H' s1
      rw [worths_at ha] at z
      refine ⟨D, xs.map (idxB 8), rfl, SqL.of (by rw [h1, List.map_map]; rfl), ?_⟩
      have e : (!xs.isEmpty && xs.all (idxB 8)) = (xs.map (idxB 8)).all id := by
        cases xs with
        | nil => exact absurd rfl hne
        | cons y ys => simp
      rw [e] at z
      exact z
theorem ok_is_content {f : Addr} {fd : FuncData} (F : Fun K "is_content" "is_content" s_is_content f fd) (T : Txt mg) (C : Cst K mg) (c_are_worths : Cal P w K mg base 3 "are_worths" ["thing"] (sp_are_worths K)) : FnOk P w K mg base CX0 4 f fd ["thing"] (sp_is_content K) := by
  obtain ⟨tk, c_MOST_CELLS⟩ := C.cells
  refine F.ok sc_is_content (fun vs H Q E h => ?_) (fun cdv A outer s H vs Q E hr h => ?_)
  · obtain ⟨_, rfl, _⟩ := h
    rfl
  obtain ⟨x, rfl, th, k⟩ := h
  refine ⟨_, (pss_one (ps_ret (pe_and (pe_cal c_are_worths hr (pa_cons (pv 0) pa_nil)) (pe_one (pe_cmpR op_le (pe_callB call_len' (by rfl) T.len (by decide +kernel) (pa_cons (pv 0) pa_nil)) (pe_glob (v := .int 24) rfl c_MOST_CELLS ⟨_, rfl⟩) (nomark _)))))), ?_⟩
  refine ⟨_, rfl, x, rfl, th, fun H1 s1 => ⟨_, rfl, ?_⟩⟩
  have z := k H1 s1
  unfold contentB at z
  cases c : worthsB H x with
  | true =>
    obtain ⟨a, xs, rfl, ha, _⟩ := worths_true c
    rw [c, len_at ha] at z
    refine ⟨_, rfl, a, xs, rfl, .inr (s1 _ _ ha), _, _, rfl, rfl, ?_⟩
    have e : decide (((xs.length : Nat) : Int) ≤ 24) = decide (xs.length ≤ 24) := decide_eq_decide.mpr (by omega)
    show Q (V.bl (decide (((xs.length : Nat) : Int) ≤ 24))) H1
    rw [e]
    exact z
  | false =>
    rw [c] at z
    exact z
theorem ok_is_step {f : Addr} {fd : FuncData} (F : Fun K "is_step" "is_step" s_is_step f fd) (T : Txt mg) (c_is_index : Cal P w K mg base 2 "is_index" ["thing", "many"] (sp_is_index K)) (c_are_worths : Cal P w K mg base 3 "are_worths" ["thing"] (sp_are_worths K)) : FnOk P w K mg base CX0 4 f fd ["cells", "thing"] (sp_is_step K) := by
  refine F.ok sc_is_step (fun vs H Q E h => ?_) (fun cdv A outer s H vs Q E hr h => ?_)
  · obtain ⟨_, _, rfl, _⟩ := h
    rfl
  obtain ⟨m, x, rfl, th, k⟩ := h
  obtain ⟨n, t⟩ := th.ty
  refine ⟨_, (pss_cons (ps_if (pt_cmpR op_isN (pv 1) pe_non (nomark _))
      (pss_one (ps_ret pe_bl))
      pss_nil)
    (pss_cons (ps_cut (ps_if (PW.pt (pw_or (pt_not (pt_val (pe_callB call_isi' (by rfl) T.isinstance (by decide +kernel) (pa_cons (pv 1) (pa_cons (pe_bltn (v := .ty "tuple") (by rfl) T.tuple (by decide +kernel) rfl) pa_nil))))) (pw_or1 (pt_cmpR op_ne (pe_callB call_len' (by rfl) T.len (by decide +kernel) (pa_cons (pv 1) pa_nil)) pe_int (nomark _)))))
      (pss_one (ps_ret pe_bl))
      pss_nil))
    (pss_cons (ps_asg (pv 1) (pg_tup rfl (pgs_cons (pg_name (i := 2) sc_is_step.nd rfl (Or.inl rfl)) (pgs_cons (pg_name (i := 3) sc_is_step.nd rfl (Or.inl rfl)) pgs_nil))))
    (pss_one (ps_ret (pe_and (pe_cal c_is_index hr (pa_cons (pv 2) (pa_cons (pv 0) pa_nil))) (pe_and (pe_cal c_are_worths hr (pa_cons (pv 3) pa_nil)) (pe_one (pe_cmpR op_le (pe_op op_add (pv 2) (pe_callB call_len' (by rfl) T.len (by decide +kernel) (pa_cons (pv 3) pa_nil))) (pv 0) (nomark _)))))))))), ?_⟩
  refine ⟨_, rfl, rfl, _, rfl, ite2 (fun c0 => ?_) (fun c0 => ?_)⟩
  · have e : x = .non := of_decide_eq_true c0
    subst e
    exact k H (Same.refl H)
  have xn : x ≠ .non := fun e => c0 (decide_eq_true e)
  refine ⟨fun σ' H' => ∃ a f ws, x = .ref a ∧ H a = some (.tup [f, ws]) ∧ σ' = [some (.int m), some x, none, none] ∧ H = H', ?_, ?_⟩
  · refine ⟨_, rfl, x, n, "tuple", rfl, t, by decide, _, rfl, ?_⟩
    by_cases c : n = "tuple"
    · obtain ⟨a, xs, rfl, ha⟩ := ty_tup t c
      have e : (!isB n "tuple") = false := by rw [c]; decide
      rw [e]
      refine ⟨_, rfl, a, xs, rfl, .inr ha, rfl, _, rfl, ite2 (fun c => ?_) (fun c => ?_)⟩
      · have z := k H (Same.refl H)
        have e2 : stepB H m (.ref a) = false := by
          unfold stepB
          simp only [ha]
          split
          · rename_i f ws e3
            cases e3
            exact absurd c (by show ¬ (!decide (V.int 2 = V.int 2)) = true; decide)
          · rfl
        rw [e2] at z
        exact z
      · have hl : xs.length = 2 := by
          have c' : ¬ (!decide (V.int ((xs.length : Nat) : Int) = V.int 2)) = true := c
          by_cases q : xs.length = 2
          · exact q
          · refine absurd ?_ c'
            rw [decide_eq_false (fun e => q (by injection e; omega))]
            rfl
        match xs, hl with
        | [f, ws], _ => exact ⟨a, f, ws, rfl, ha, rfl, rfl⟩
    · rw [tup_not n t.mem c]
      have z := k H (Same.refl H)
      have e2 : stepB H m x = false := by
        have z2 := no_tup t c
        cases x with
        | non => exact absurd rfl xn
        | ref a =>
          unfold stepB
          simp only
          split
          · rename_i e3
            exact absurd e3 (z2 a _ rfl)
          · rfl
        | _ => rfl
      rw [e2] at z
      exact z
  · rintro _ _ ⟨a, f, ws, rfl, ha, rfl, rfl⟩
    obtain ⟨hl, hy⟩ := th.2 a _ rfl (.inl ha)
    obtain ⟨n1, t1⟩ := (hy f (List.mem_cons_self)).ty
    have th2 := hy ws (List.mem_cons_of_mem _ List.mem_cons_self)
    have e2 : stepB H m (.ref a) = (idxB m f && worthsB H ws && addB m (lenB H ws) f) := by
      unfold stepB
      simp only [ha]
    refine ⟨_, rfl, a, _, rfl, SqT.of ha, rfl, _, _, rfl, _, _, rfl, rfl, ?_⟩
    refine ⟨_, rfl, _, rfl, f, m, n1, rfl, t1, _, rfl, ?_⟩
    rw [e2] at k
    cases c1 : idxB m f with
    | false =>
      rw [c1] at k
      exact k H (Same.refl H)
    | true =>
      rw [c1] at k
      refine ⟨_, rfl, ws, rfl, th2, fun H1 s1 => ⟨_, rfl, ?_⟩⟩
      have z := k H1 s1
      cases c2 : worthsB H ws with
      | false =>
        rw [c2] at z
        exact z
      | true =>
        rw [c2] at z
        obtain ⟨b, ys, rfl, hb, _⟩ := worths_true c2
        rw [len_at hb] at z
        cases f with
        | int i => exact ⟨_, rfl, _, rfl, b, ys, rfl, .inr (s1 _ _ hb), _, _, rfl, rfl, _, rfl, _, _, rfl, rfl, z⟩
        | _ => cases c1
theorem ok_are_steps {f : Addr} {fd : FuncData} {spr : Sp} (F : Fun K "are_steps" "are_steps" s_are_steps f fd) (T : Txt mg) (c_is_step : Cal P w K mg base 4 "is_step" ["cells", "thing"] (sp_is_step K)) (c_is_room : Cal P w K mg base 3 "is_room" ["width", "steps"] spr) : FnOk P w K mg base CX0 5 f fd ["cells", "width", "thing"] (sp_are_steps K spr) := by
  refine F.ok sc_are_steps (fun vs H Q E h => ?_) (fun cdv A outer s H vs Q E hr h => ?_)
  · obtain ⟨_, _, _, rfl, _⟩ := h
    rfl
  obtain ⟨m, wd, x, rfl, th, k0, k1⟩ := h
  obtain ⟨n, t⟩ := th.ty
  refine ⟨_, (pss_cons (ps_cut (ps_if (PW.pt (pw_or (pt_not (pt_val (pe_callB call_isi' (by rfl) T.isinstance (by decide +kernel) (pa_cons (pv 2) (pa_cons (pe_bltn (v := .ty "list") (by rfl) T.list (by decide +kernel) rfl) pa_nil))))) (pw_or1 (pt_not (pt_val (pe_callB (cr_all rfl) (by rfl) T.all (by decide +kernel) (pa_cons (pe_lc (own := [("step", 3)]) (g := (gName 3)) (tt := tYes) rfl sc_are_steps.nd (pi_list (pv 2)) (blkOk_by (own := [("step", 3)]) (N := N_are_steps) (sc := defScope s_are_steps) (by decide +kernel)) (fun _ _ _ _ _ => pg_name (i := 3) sc_are_steps.nd rfl (Or.inl rfl)) (fun _ _ _ _ _ => pts_nil) (fun _ _ _ _ _ => (pe_cal c_is_step hr (pa_cons (pv 0) (pa_cons (pv 3) pa_nil))))) pa_nil)))))))
      (pss_one (ps_ret pe_bl))
      pss_nil))
    (pss_one (ps_ret (pe_cal c_is_room hr (pa_cons (pv 1) (pa_cons (pv 2) pa_nil)))))), ?_⟩
  refine ⟨fun σ' H' => stepsB H m x = true ∧ σ' = [some (.int m), some (.int wd), some x, none] ∧ Same H H', ?_, ?_⟩
  · refine ⟨_, rfl, x, n, "list", rfl, t, by decide, _, rfl, ?_⟩
    by_cases c : n = "list"
    · obtain ⟨a, xs, rfl, ha⟩ := ty_lst t c
      obtain ⟨hl, hy⟩ := th.2 a xs rfl (.inr ha)
      have e : isB n "list" = true := by rw [c]; decide
      rw [e]
      refine ⟨_, rfl, a, rfl, ⟨xs, SqL.of ha⟩, fun D hD => lc_list (K := K) (a := a) (xs := xs) (fun i H' => Same H H' ∧ H' D = some (.lst ((xs.take i).map fun y => V.bl (stepB H m y)))) ?_ ?_ ?_ ?_⟩
      · exact ⟨same_new hD, upd_same⟩
      · rintro i H' _ ⟨s1, _⟩
        exact SqL.of (s1 _ _ ha)
      · rintro i y H' hx ⟨s1, h1⟩
        have th2 := hy y (List.mem_of_getElem? hx)
        have il : i < xs.length := (List.getElem?_eq_some_iff.mp hx).1
        refine ⟨rfl, _, rfl, _, rfl, m, y, rfl, th2.same s1, fun H2 s2 => ⟨_, s2 _ _ h1, ?_, same_mut (s1.trans s2) hD, ?_⟩⟩
        · rw [List.length_map, List.length_take]
          exact szl (by omega)
        · rw [upd_same, List.take_add_one, hx, step_same th2 s1]
          simp
      · rintro H' ⟨s1, h1⟩
        rw [List.take_length] at h1
        have e2 : stepsB H m (.ref a) = (xs.map (stepB H m)).all id := by
          unfold stepsB
          simp only [ha]
          simp
        refine ⟨D, xs.map (stepB H m), rfl, SqL.of (by rw [h1, List.map_map]; rfl), ?_⟩
        rw [← e2]
        refine ⟨_, rfl, ?_⟩
        cases e3 : stepsB H m (.ref a) with
        | true => exact iteF ⟨rfl, rfl, s1⟩
        | false => exact iteT (k0 e3 H' s1)
    · rw [lst_not n t.mem c]
      have e2 : stepsB H m x = false := by
        cases x with
        | ref a =>
          unfold stepsB
          simp only
          split
          · rename_i e3
            exact absurd (ty_is_lst t e3) c
          · rfl
        | _ => rfl
      exact k0 e2 H (Same.refl H)
  · rintro _ H1 ⟨e3, rfl, s1⟩
    exact ⟨_, rfl, _, rfl, k1 e3 H1 s1⟩
end
end Af

set_option Elab.async false
set_option linter.all false
set_option maxRecDepth 100000
namespace Af
open PySem PySem.Calls PySem.Spec PyProof.Rows L2
/-! == and != of an instance whose class has its own __eq__ and no __ne__ -/
section
variable {M : Model} {prog : Program} {w : World} {A : Around} {E : Value → Shared → Prop} {s : Shared} {K : PySem.W.Frag} {x C L f : Addr} {ox : Obj} {od : Option Obj} {b tb : Value} {h₀ : Heap} {m : Str → Option Value}
theorem ifBound_ne {args : List Value} {Q : Option Value → Shared → Prop} (X : K.In s.heap) (I : PySem.W.InstAt s.heap x ox C od) (hs : PySem.W.findIn K (.ref C) "__ne__" = some (some (.builtin "object.__ne__")))
    (h : wpAny M A (call (.builtin "object.__ne__") (.ref x :: args)) (fun v => Q (some v)) E s) : wpAny M A (callSpecialIfBound? (.ref x) "__ne__" args) Q E s := by
  simp only [callSpecialIfBound?, bindSpecialIfBound?]
  refine wpAny_holding (wpAny_bind (wpAny_bind (wpAny_bind (I.type.here ((PySem.W.looks_findIn X hs).here ?_)))))
  refine wpAny_bind (wpAny_askSetting (wpAny_ite ?_))
  have last : wpAny M A (call (.builtin "object.__ne__") ([.ref x] ++ args) >>= fun v => pure (some v)) Q E s := wpAny_bind (wpAny_mono h (fun _ _ q => wpAny_pure q) fun _ _ q => q)
  split
  · exact wpAny_bind (wpAny_of_eq (F.cmp_object.ne.bind _) (wpAny_pure (by exact last)))
  · exact wpAny_tryCatch (wpAny_bind (wpAny_of_eq (F.cmp_object.ne.bind _) (wpAny_pure (by exact last))))
theorem entry_ne {Q : Fin → Shared → Prop} (hu : A.units < cLine) (X : K.In s.heap) (I : PySem.W.InstAt s.heap x ox C od) (hs : PySem.W.findIn K (.ref C) "__eq__" = some (some (.ref f))) (hf : PySem.W.isFn K (.ref f) = true)
    (h : wpAny (model prog w) A (call (.ref f) [.ref x, b]) (fun v s' => ∃ r, v = .bool r ∧ Q (.done (.ret (.bool (!r)))) s') E s) :
    wpAny (model prog w) A (Builtin.«object.__ne__» ⟨[.ref x, b], []⟩) Q E s := by
  unfold Builtin.«object.__ne__»
  repeat (first
    | with_reducible refine wpAny_cRoomFor hu ?_
    | (refine wpAny_bind (m := callSpecialIfBound? (.ref x) (Str.ofString "__eq__") [b])
        (PySem.W.ifBound_K X I hs hf (wpAny_mono h (fun r s' hr => by
          obtain ⟨b, rfl, hq⟩ := hr
          repeat (first | exact hq | exact wpAny_pure hq | exact wpAny_truthy_bool hq | (refine wpAny_bind (m := truthy (.bool _)) (wpAny_truthy_bool ?_)) | wp_step)) fun _ _ e => e)))
    | wp_step)
theorem rc_ne {Q : Value → Shared → Prop} (hu : A.units + 1 < cLine) (Y : PyProof.Rows.Fr h₀ L s.heap m) (X₀ : K.In h₀) (I : PySem.W.InstAt s.heap x ox C od) (hb : PySem.W.Looks (model prog w) s.heap (typeOf b) tb) (hn : PySem.W.notFirst K C tb = true)
    (hs : PySem.W.findIn K (.ref C) "__eq__" = some (some (.ref f))) (hf : PySem.W.isFn K (.ref f) = true) (hne : PySem.W.findIn K (.ref C) "__ne__" = some (some (.builtin "object.__ne__"))) (hm : PySem.W.mroIn K C (.type "object") = some true)
    (h : wpAny (model prog w) A.in1 (call (.ref f) [.ref x, b]) (fun v s' => ∃ r, v = .bool r ∧ Q (.bool (!r)) s') E s) : wpAny (model prog w) A (richCompare .NotEq (.ref x) b) Q E s := by
  have X := X₀.keeps Y.keep
  have one : wpAny (model prog w) A (tryCompare (.ref x) "__ne__" b) (fun r s' => ∃ v, r = some v ∧ Q v s') E s := by
    unfold tryCompare
    refine wpAny_bind (ifBound_ne X I hne (wpAny_call (codeAny_call_builtin F.cmp_object.ne.plain F.cmpEntry_ne (PySem.W.check_slot F.cmpKind_ne F.cmpSplit_ne (I.type.andThen (PySem.W.looks_mroIn X hm)) (F.cmpArgs_ne _ _) (entry_ne (A := A.in1) hu X I hs hf (wpAny_mono h (fun v s' z => ?_) fun _ _ e => e))))))
    obtain ⟨r, rfl, hq⟩ := z
    exact ⟨r, rfl, wpAny_pure ⟨_, rfl, hq⟩⟩
  unfold richCompare
  simp only [oneThing_ref]
  refine wpAny_holding (wpAny_bind (wpAny_cRoomFor (Nat.lt_of_succ_lt hu) ?_))
  refine wpAny_bind (I.type.here (wpAny_bind (hb.here ?_)))
  have go : wpAny (model prog w) A (tryCompare (.ref x) "__ne__" b) (fun r s' => ∃ v, r = some v ∧ Q v s') E s := one
  split
  · rename_i q
    have e : PySem.W.subIn K tb (.ref C) = some false := by
      rcases Bool.or_eq_true_iff.mp hn with e | e
      · rw [beq_iff_eq.mp e] at q; simp at q
      · exact beq_iff_eq.mp e
    refine wpAny_bind ((PySem.W.looks_subIn X e).here ?_)
    simp only [Bool.false_eq_true, if_false]
    refine wpAny_bind (wpAny_mono one (fun r s' z => ?_) fun _ _ e => e)
    obtain ⟨v, rfl, hq⟩ := z
    exact wpAny_pure hq
  · refine wpAny_bind (wpAny_pure ?_)
    simp only [Bool.false_eq_true, if_false]
    refine wpAny_bind (wpAny_mono one (fun r s' z => ?_) fun _ _ e => e)
    obtain ⟨v, rfl, hq⟩ := z
    exact wpAny_pure hq
end
/-- what is asked of the class at C for its own == -/
structure OwnEqC (K : PySem.W.Frag) (C f : Addr) : Prop where
  eq : PySem.W.findIn K (.ref C) "__eq__" = some (some (.ref f))
  fn : PySem.W.isFn K (.ref f) = true
  ne : PySem.W.findIn K (.ref C) "__ne__" = some (some (.builtin "object.__ne__"))
  ob : PySem.W.mroIn K C (.type "object") = some true
/-- x == y where x is an instance: what the own __eq__ promises, which answers a bool -/
def rOwnEq (K : PySem.W.Frag) (C : Addr) (sp : Sp) : R2 := fun x y H Q => ∃ a dx fs t, x = .ref a ∧ H a = some (.ins C dx fs) ∧ TyX K H y t ∧ PySem.W.notFirst K C t = true ∧ sp [x, y] H (fun v H' => ∃ b, v = .bl b ∧ Q (.bl b) H') E0
def rOwnNe (K : PySem.W.Frag) (C : Addr) (sp : Sp) : R2 := fun x y H Q => ∃ a dx fs t, x = .ref a ∧ H a = some (.ins C dx fs) ∧ TyX K H y t ∧ PySem.W.notFirst K C t = true ∧ sp [x, y] H (fun v H' => ∃ b, v = .bl b ∧ Q (.bl (!b)) H') E0
section
variable {X : Cx} {C f : Addr} {fd : FuncData} {ps : List Str} {sp : Sp} {k n : Nat}
theorem own_run (G : FnOk X.prog X.w X.K X.mg X.base CX0 k f fd ps sp) (hb : Binds X.K fd ps []) {A : Around} (hr : Room k A) (hA : A.frames = X.A.frames) {pins : List (Addr × Obj)} {s : Shared} {σ : L2.St} {H : Hp} {x y : V} {v u : Value} (I : Inv X pins σ H s) (rx : RelV x v) (ry : RelV y u)
    {Q : VK} (hq : sp [x, y] H Q E0) : wpAny (model X.prog X.w) A (call (.ref f) [v, u]) (fun r s' => EP X pins σ Q r s') X.xe s := by
  have e0 : Env0 X.prog X.w X.K X.mg X.base A X.stack s H := by
    have e := I.env0
    exact ⟨by rw [hA]; exact e.frames, e.mod, e.bs, e.bsz, e.funs, e.frf, e.hok, e.bare⟩
  have hl := G.len _ _ _ _ hq
  refine wpAny_call (codeAny_mono (G.run A X.stack s H ⟨[v, u], []⟩ [v, u] [x, y] _ E0 hr e0 (by
    have := hb s [v, u] I.kIn (by simpa using hl)
    simpa using this) (.cons rx (.cons ry .nil)) hq) fun r s' z => ?_)
  cases r with
  | error e => exact pass0 pins σ H s e s' I z
  | ok fl =>
    cases fl with
    | ret w => exact I.after z
    | next => exact False.elim z
    | brk => exact False.elim z
    | cont => exact False.elim z
theorem op_ownEq (O : OwnEqC X.K C f) (G : FnOk X.prog X.w X.K X.mg X.base CX0 k f fd ps sp) (hb : Binds X.K fd ps []) (hr : Room n X.A) (hkn : k ≤ n := by decide) : OpR X (compareOp .Eq) (rOwnEq X.K C sp) := by
  intro pins s σ H x y v u Q I rx ry h
  obtain ⟨a, dx, fs, t, rfl, ha, ty, nf, q⟩ := h
  cases (show v = Value.ref a from rx)
  obtain ⟨mA, J, _⟩ := ins_get I.hok ha
  obtain ⟨od, J, _⟩ := J.look
  obtain ⟨P, Z, p, _⟩ := kit_of I ry ty
  obtain ⟨m, hF⟩ := I.fr
  have lk := Z.ty (model X.prog X.w) s.heap I.kIn p
  show wpAny (model X.prog X.w) X.A (richCompare .Eq (.ref a) u) (EP X pins σ Q) X.xe s
  refine PySem.W.cmp_K (op := .Eq) (tb := t) hr.units0 hF I.ok.mod.kin J lk nf O.eq O.fn ?_
  refine wpAny_mono (own_run G hb (hr.mono hkn) rfl (x := .ref a) (v := .ref a) I rfl ry q) (fun r s' z => ?_) fun _ _ z => z
  obtain ⟨v', H', I', rv, b, e, z⟩ := z
  subst e
  cases (show r = Value.bool b from rv)
  exact ⟨.bl b, H', I', rfl, z⟩
theorem op_ownNe (O : OwnEqC X.K C f) (G : FnOk X.prog X.w X.K X.mg X.base CX0 k f fd ps sp) (hb : Binds X.K fd ps []) (hr : Room n X.A) (hkn : k + 1 ≤ n := by decide) : OpR X (compareOp .NotEq) (rOwnNe X.K C sp) := by
  intro pins s σ H x y v u Q I rx ry h
  obtain ⟨a, dx, fs, t, rfl, ha, ty, nf, q⟩ := h
  cases (show v = Value.ref a from rx)
  obtain ⟨mA, J, _⟩ := ins_get I.hok ha
  obtain ⟨od, J, _⟩ := J.look
  obtain ⟨P, Z, p, _⟩ := kit_of I ry ty
  obtain ⟨m, hF⟩ := I.fr
  have lk := Z.ty (model X.prog X.w) s.heap I.kIn p
  show wpAny (model X.prog X.w) X.A (richCompare .NotEq (.ref a) u) (EP X pins σ Q) X.xe s
  have hr' : Room (k + 1) X.A := hr.mono hkn
  refine rc_ne (tb := t) hr'.in1.units0 hF I.ok.mod.kin J lk nf O.eq O.fn O.ne O.ob ?_
  refine wpAny_mono (own_run G hb hr'.in1 rfl (x := .ref a) (v := .ref a) I rfl ry q) (fun r s' z => ?_) fun _ _ z => z
  obtain ⟨v', H', I', rv, b, e, z⟩ := z
  subst e
  cases (show r = Value.bool b from rv)
  exact ⟨b, rfl, .bl (!b), H', I', rfl, z⟩
end
end Af

set_option Elab.async false
set_option linter.all false
set_option maxRecDepth 100000
set_option maxHeartbeats 4000000
namespace Af
open PySem L2
abbrev s_is_room : Stmt := top 25
abbrev N_is_room : List Str := ["width", "steps"]
theorem sc_is_room : FnScope N_is_room ["width", "steps"] (defScope s_is_room) := ⟨rfl, rfl, rfl, by decide +kernel, rfl, by decide +kernel, by decide +kernel⟩

abbrev s_Plan___init : Stmt := inClass (top 30) 0
abbrev N_Plan___init : List Str := ["self", "base", "width", "steps", "epochs", "piece"]
theorem sc_Plan___init : FnScope N_Plan___init ["self", "base", "width", "steps"] (defScope s_Plan___init) := ⟨rfl, rfl, rfl, by decide +kernel, rfl, by decide +kernel, by decide +kernel⟩

/-- what the text has written of the class -/
structure PlanC (K : PySem.W.Frag) (mg : Str → Option Value) (C : Addr) : Prop where
  cl : Cls K C
  nB : NoAttr K C "_base"
  nW : NoAttr K C "_width"
  nS : NoAttr K C "_steps"
  nP : NoAttr K C "_pieces"
  nE : NoAttr K C "_piece_epochs"
  nN : NoAttr K C "_epochs"
  mgC : mg "Plan" = some (.ref C)
  is1 : PySem.W.kitOne K (.ref C) (.ref C) = some true
  is0 : ∀ n ∈ tyNames, PySem.W.kitOne K (.type n) (.ref C) = some false
  first : ∀ n ∈ tyNames, PySem.W.notFirst K C (.type n) = true
  ha : PySem.W.findIn K (.ref C) "__class__" = some (some (.builtin "object.__class__"))
  hn : PySem.W.specialIn K (.builtin "object.__class__") "__get__" = some (some (.builtin "getset_descriptor.__get__"))
  htk : PySem.W.takesIn K (.builtin "object.__class__") = some true
  hm : PySem.W.mroIn K C (.type "object") = some true
theorem PlanC.ty {K : PySem.W.Frag} {mg : Str → Option Value} {C a dx : Addr} {fs : List (Str × V)} {H : Hp} (T : PlanC K mg C) (h : H a = some (.ins C dx fs)) : TyX K H (.ref a) (.ref C) := .base (.ins h T.cl T.ha T.hn T.htk T.hm)
/-- the parts of a plan that the program takes -/
structure OkP (pl : Pl) : Prop where
  c1 : 1 ≤ pl.cs.length
  c24 : pl.cs.length ≤ 24
  cb : ∀ z ∈ pl.cs, 0 ≤ z ∧ z < 8
  w1 : 1 ≤ pl.w
  w24 : pl.w ≤ 24
  st : ∀ x ∈ pl.sts, OkS pl.cs.length x
  sl : pl.sts.length ≤ 40
  pc : (allP pl.w 0 pl.sts).length ≤ 40
def sp_roomX : Sp := fun vs H Q _ => ∃ (wd : Int) (a : Addr) (xs : List V) (sts : List Stp), vs = [.int wd, .ref a] ∧ H a = some (.lst xs) ∧ Paired (StepV H) xs sts ∧ 0 < wd ∧ xs.length ≤ 40 ∧ (∀ x ∈ sts, OkS 24 x) ∧ (allP wd 0 sts).length ≤ 40 ∧
  ∀ H', Same H H' → Q (.bl true) H'
/-- the epoch of each piece -/
def pieceE (sts : List Stp) (ps : List (Int × (Int × List Int))) : List Int := ps.map fun p => ((eps 0 sts)[p.1.toNat]?).getD 0
theorem allP_in {w : Int} : ∀ {l : List Stp} {i : Nat} {p : Int × (Int × List Int)}, p ∈ allP w i l → ∃ j : Nat, p.1 = (j : Int) ∧ i ≤ j ∧ j < i + l.length
  | [], _, _, h => by cases h
  | a :: l, i, p, h => by
    have h' : p ∈ oneP w i a ++ allP w (i + 1) l := h
    rcases List.mem_append.mp h' with h | h
    · cases a with
      | none => cases h
      | some fw =>
        obtain ⟨f, ws⟩ := fw
        obtain ⟨y, _, rfl⟩ := List.mem_map.mp h
        exact ⟨i, rfl, Nat.le_refl _, by rw [List.length_cons]; omega⟩
    · obtain ⟨j, h1, h2, h3⟩ := allP_in h
      exact ⟨j, h1, by omega, by rw [List.length_cons]; omega⟩
def sp_initX (C : Addr) : Sp := fun vs H Q _ => ∃ (x dx ca sa : Addr) (pl : Pl) (xs : List V), vs = [.ref x, .ref ca, .int pl.w, .ref sa] ∧ H x = some (.ins C dx []) ∧ H ca = some (.tup (ivs pl.cs)) ∧ H sa = some (.lst xs) ∧ Paired (StepV H) xs pl.sts ∧ OkP pl ∧
  ∀ H' (sl ql el : Addr) (fs : List (Str × V)) (ys : List V), (∀ a o, a ≠ x → H a = some o → H' a = some o) → H sl = none → H ql = none → H el = none → H' x = some (.ins C dx fs) → fs.lookup ("_base" : Str) = some (.ref ca) → fs.lookup ("_width" : Str) = some (.int pl.w) → fs.lookup ("_steps" : Str) = some (.ref sl) →
    fs.lookup ("_pieces" : Str) = some (.ref ql) → fs.lookup ("_piece_epochs" : Str) = some (.ref el) → fs.lookup ("_epochs" : Str) = some (.int ((bars pl.sts : Nat) + 1)) → fs.lookup ("epoch_of" : Str) = none → H' sl = some (.lst xs) → H' ql = some (.lst ys) → Paired (PieceA H') ys (allP pl.w 0 pl.sts) → H' el = some (.lst (ivs (pieceE pl.sts (allP pl.w 0 pl.sts)))) → Q .non H'
theorem all_idx {ns : List Int} {m : Int} (h : ∀ z ∈ ns, 0 ≤ z ∧ z < m) : (ivs ns).all (idxB m) = true := by
  refine List.all_eq_true.mpr fun x hx => ?_
  obtain ⟨z, hz, rfl⟩ := List.mem_map.mp hx
  obtain ⟨a, b⟩ := h z hz
  show (decide (0 ≤ z) && decide (z < m)) = true
  rw [decide_eq_true a, decide_eq_true b]
  rfl
theorem ivs_ne {ns : List Int} (h : ns ≠ []) : (!(ivs ns).isEmpty) = true := by
  cases ns with
  | nil => exact absurd rfl h
  | cons a b => rfl
theorem th_ints {K : PySem.W.Frag} {H : Hp} {a : Addr} {ns : List Int} (h : H a = some (.tup (ivs ns))) (hl : ns.length ≤ 100000) {d : Nat} : Th K H (d + 1) (.ref a) := by
  refine th_tup h (by rw [ivs_len]; exact hl) fun y hy => ?_
  obtain ⟨z, _, rfl⟩ := List.mem_map.mp hy
  exact th_int
theorem content_ok {H : Hp} {a : Addr} {ns : List Int} (h : H a = some (.tup (ivs ns))) (c1 : 1 ≤ ns.length) (c2 : ns.length ≤ 24) (cb : ∀ z ∈ ns, 0 ≤ z ∧ z < 8) : contentB H (.ref a) = true := by
  unfold contentB
  rw [worths_at h, len_at h, ivs_ne (fun z => by rw [z] at c1; exact absurd c1 (by decide)), all_idx cb, ivs_len, decide_eq_true c2]
  rfl
theorem width_ok {w : Int} (h1 : 1 ≤ w) (h2 : w ≤ 24) : widthB (.int w) = true := by
  show (decide (1 ≤ w) && decide (w ≤ 24)) = true
  rw [decide_eq_true h1, decide_eq_true h2]
  rfl
theorem step_ok {H : Hp} {x : V} {st : Stp} {n : Nat} (h : StepV H x st) (o : OkS n st) : stepB H (n : Int) x = true := by
  cases st with
  | none =>
    have e : x = .non := h
    subst e
    rfl
  | some fw =>
    obtain ⟨f, ws⟩ := fw
    obtain ⟨a, b, rfl, h1, h2⟩ := h
    obtain ⟨o1, o2, o3, o4⟩ := o
    have hp : 0 < ws.length := List.length_pos_iff.mpr o2
    have e : stepB H (n : Int) (.ref a) = (idxB (n : Int) (.int f) && worthsB H (.ref b) && addB (n : Int) (lenB H (.ref b)) (.int f)) := by
      unfold stepB
      simp only [h1]
    rw [e, worths_at h2, len_at h2, ivs_ne o2, all_idx o4, ivs_len]
    show ((decide (0 ≤ f) && decide (f < (n : Int))) && (true && true) && decide (f + (ws.length : Int) ≤ (n : Int))) = true
    rw [decide_eq_true o1, decide_eq_true o3, decide_eq_true (by omega)]
    rfl
theorem th_step {K : PySem.W.Frag} {H : Hp} {x : V} {st : Stp} {n : Nat} (h : StepV H x st) (o : OkS n st) (hn : n ≤ 1000) : Th K H 2 x := by
  cases st with
  | none =>
    have e : x = .non := h
    subst e
    exact th_non
  | some fw =>
    obtain ⟨f, ws⟩ := fw
    obtain ⟨a, b, rfl, h1, h2⟩ := h
    obtain ⟨o1, o2, o3, o4⟩ := o
    refine th_tup h1 (by show 2 ≤ 100000; decide) fun y hy => ?_
    simp only [List.mem_cons, List.not_mem_nil, or_false] at hy
    rcases hy with rfl | rfl
    · exact th_int
    · exact th_ints h2 (by omega)
theorem paired_mem {α β : Type} {F : α → β → Prop} : ∀ {a : List α} {b : List β} {x : α}, Paired F a b → x ∈ a → ∃ y, y ∈ b ∧ F x y
  | _, _, _, .nil, h => by simp at h
  | _, _, x, .cons r t, h => by
    rcases List.mem_cons.mp h with rfl | h
    · exact ⟨_, List.mem_cons_self, r⟩
    · obtain ⟨y, h1, h2⟩ := paired_mem t h
      exact ⟨y, List.mem_cons_of_mem _ h1, h2⟩
theorem steps_ok {H : Hp} {a : Addr} {xs : List V} {sts : List Stp} {n : Nat} (h : H a = some (.lst xs)) (hst : Paired (StepV H) xs sts) (ok : ∀ x ∈ sts, OkS n x) : stepsB H (n : Int) (.ref a) = true := by
  have e : stepsB H (n : Int) (.ref a) = xs.all (stepB H (n : Int)) := by
    unfold stepsB
    simp only [h]
  rw [e]
  refine List.all_eq_true.mpr fun x hx => ?_
  obtain ⟨st, h1, h2⟩ := paired_mem hst hx
  exact step_ok h2 (ok st h1)
theorem th_steps {K : PySem.W.Frag} {H : Hp} {a : Addr} {xs : List V} {sts : List Stp} {n : Nat} (h : H a = some (.lst xs)) (hl : xs.length ≤ 100000) (hst : Paired (StepV H) xs sts) (ok : ∀ x ∈ sts, OkS n x) (hn : n ≤ 1000) : Th K H 3 (.ref a) := by
  refine th_lst h hl fun y hy => ?_
  obtain ⟨st, h1, h2⟩ := paired_mem hst hy
  exact th_step h2 (ok st h1) hn
theorem ok24 {n : Nat} {st : Stp} (h : OkS n st) (hn : n ≤ 24) : OkS 24 st := by
  cases st with
  | none => exact True.intro
  | some fw =>
    obtain ⟨f, ws⟩ := fw
    obtain ⟨o1, o2, o3, o4⟩ := h
    exact ⟨o1, o2, by omega, o4⟩
/-- fields that are set one after the other -/
def fs6 (ca : Addr) (w : Int) (sl pl pe : Addr) (n : V) : List (Str × V) := putF "_epochs" n (putF "_piece_epochs" (.ref pe) (putF "_pieces" (.ref pl) (putF "_steps" (.ref sl) (putF "_width" (.int w) (putF "_base" (.ref ca) [])))))
/-- all but the object at x stands -/
def Ko (x : Addr) (H H' : Hp) : Prop := ∀ a o, a ≠ x → H a = some o → H' a = some o
theorem Ko.same {x : Addr} {H H1 H2 : Hp} (k : Ko x H H1) (s : Same H1 H2) : Ko x H H2 := fun a o n e => s _ _ (k a o n e)
theorem Ko.upd {x : Addr} {H H1 : Hp} {o : HO} (k : Ko x H H1) : Ko x H (L2.upd H1 x o) := fun a u n e => by
  rw [upd_ne n]
  exact k a u n e
theorem steps_ko {x C dx : Addr} {fs : List (Str × V)} {H H' : Hp} (k : Ko x H H') (hx : H x = some (.ins C dx fs)) {xs : List V} {sts : List Stp} (h : Paired (StepV H) xs sts) : Paired (StepV H') xs sts := L2.Paired.mapP h fun v st z => by
  have nt : ∀ {a : Addr} {l : List V}, H a = some (.tup l) → H' a = some (.tup l) := fun {a l} e => k a _ (ne_of e hx (by intro q; cases q)) e
  cases st with
  | none => exact z
  | some fw =>
    obtain ⟨f, ws⟩ := fw
    obtain ⟨a, b, e, h1, h2⟩ := z
    exact ⟨a, b, e, nt h1, nt h2⟩
theorem int_in {ns : List Int} {j : Nat} (h : j < ns.length) : ∃ z : Int, (ivs ns)[j]? = some (.int z) := ⟨_, ivs_get h⟩
theorem len_put {f : Str} {v : V} {fs : List (Str × V)} {n : Nat} (h : fs.length ≤ n) : (putF f v fs).length ≤ n + 1 := Nat.le_trans (length_putF f v fs) (Nat.succ_le_succ h)
theorem put_at {f : Str} {v : V} {fs : List (Str × V)} : (putF f v fs).lookup f = some v := by
  rw [lookup_putF, if_pos rfl]
theorem put_no {f g : Str} {v u : V} {fs : List (Str × V)} (h : fs.lookup g = some u) (n : ¬ g = f := by decide +kernel) : (putF f v fs).lookup g = some u := by
  rw [lookup_putF, if_neg n]
  exact h
section
variable {P : Program} {w : World} {K : PySem.W.Frag} {mg : Str → Option Value} {base : Heap}
theorem ok_roomX {f : Addr} {fd : FuncData} (F : Fun K "is_room" "is_room" s_is_room f fd) (T : Txt mg) (C : Cst K mg) (c_pieces_of : Cal P w K mg base 2 "_pieces_of" ["width", "steps"] sp_piecesX) : FnOk P w K mg base CX0 3 f fd ["width", "steps"] sp_roomX := by
  obtain ⟨tk1, c_MOST_STEPS⟩ := C.steps
  obtain ⟨tk2, c_MOST_PIECES⟩ := C.pieces
  refine F.ok sc_is_room (fun vs H Q E h => ?_) (fun cdv A outer s H vs Q E hr h => ?_)
  · obtain ⟨_, _, _, _, rfl, _⟩ := h
    rfl
  obtain ⟨wd, a, xs, sts, rfl, ha, hst, w0, xl, ok, tl, k⟩ := h
  refine ⟨_, (pss_one (ps_ret (pe_and (pe_cmpR op_le (pe_callB call_len' (by rfl) T.len (by decide +kernel) (pa_cons (pv 1) pa_nil)) (pe_glob (v := .int 40) rfl c_MOST_STEPS ⟨_, rfl⟩) (nomark _)) (pe_one (pe_cmpR op_le (pe_callB call_len' (by rfl) T.len (by decide +kernel) (pa_cons (pe_cal c_pieces_of hr (pa_cons (pv 0) (pa_cons (pv 1) pa_nil))) pa_nil)) (pe_glob (v := .int 40) rfl c_MOST_PIECES ⟨_, rfl⟩) (nomark _)))))), ?_⟩
  refine ⟨_, rfl, a, xs, rfl, .inl ha, _, _, rfl, rfl, _, rfl, ?_⟩
  have e1 : decide (((xs.length : Nat) : Int) ≤ 40) = true := decide_eq_true (by omega)
  rw [e1]
  refine iteT ⟨_, rfl, _, rfl, wd, a, xs, sts, rfl, ha, hst, w0, by omega, ok, fun l H1 ys s1 hl h1 p1 => ?_⟩
  have yl := paired_len p1
  refine ⟨l, ys, rfl, .inl h1, _, _, rfl, rfl, ?_⟩
  have e2 : decide (((ys.length : Nat) : Int) ≤ 40) = true := decide_eq_true (by omega)
  show Q (V.bl (decide (((ys.length : Nat) : Int) ≤ 40))) H1
  rw [e2]
  exact k H1 s1
theorem ok_initX {f C : Addr} {fd : FuncData} (F : Fun K "__init__" "Plan.__init__" s_Plan___init f fd) (T : Txt mg) (TC : PlanC K mg C)
    (c_is_content : Cal P w K mg base 4 "is_content" ["thing"] (sp_is_content K)) (c_is_width : Cal P w K mg base 2 "is_width" ["thing"] (sp_is_width K)) (c_are_steps : Cal P w K mg base 5 "are_steps" ["cells", "width", "thing"] (sp_are_steps K sp_roomX))
    (c_epochs_of : Cal P w K mg base 1 "_epochs_of" ["steps"] sp_epochsX) (c_pieces_of : Cal P w K mg base 2 "_pieces_of" ["width", "steps"] sp_piecesX) :
    FnOk P w K mg base CX0 6 f fd ["self", "base", "width", "steps"] (sp_initX C) := by
  refine F.ok sc_Plan___init (fun vs H Q E h => ?_) (fun cdv A outer s H vs Q E hr h => ?_)
  · obtain ⟨_, _, _, _, _, _, rfl, _⟩ := h
    rfl
  obtain ⟨x, dx, ca, sa, pl, xs, rfl, hx, hca, hsa, hst, gd, k⟩ := h
  refine ⟨_, (pss_cons (ps_cut (ps_if (PW.pt (pw_or (pt_not (pt_val (pe_cal c_is_content hr (pa_cons (pv 1) pa_nil)))) (pw_or (pt_not (pt_val (pe_cal c_is_width hr (pa_cons (pv 2) pa_nil)))) (pw_or1 (pt_not (pt_val (pe_cal c_are_steps hr (pa_cons (pe_callB call_len' (by rfl) T.len (by decide +kernel) (pa_cons (pv 1) pa_nil)) (pa_cons (pv 2) (pa_cons (pv 3) pa_nil))))))))))
      (pss_one ps_never)
      pss_nil))
    (pss_cons (ps_set (i := 4) sc_Plan___init.nd rfl (Or.inr rfl) (pe_cal c_epochs_of hr (pa_cons (pv 3) pa_nil)))
    (pss_cons (ps_fld (pv 0) (pv 1) rfl)
    (pss_cons (ps_fld (pv 0) (pv 2) rfl)
    (pss_cons (ps_fld (pv 0) (pe_callTy call_list' (by rfl) T.list (by decide +kernel) (pa_cons (pv 3) pa_nil)) rfl)
    (pss_cons (ps_fld (pv 0) (pe_cal c_pieces_of hr (pa_cons (pv 2) (pa_cons (pv 3) pa_nil))) rfl)
    (pss_cons (ps_fld (pv 0) (pe_lc (own := [("piece", 5)]) (g := (gName 5)) (tt := tYes) rfl sc_Plan___init.nd (pi_list (pe_fld (pv 0) rfl)) (blkOk_by (own := [("piece", 5)]) (N := N_Plan___init) (sc := defScope s_Plan___init) (by decide +kernel)) (fun _ _ _ _ _ => pg_name (i := 5) sc_Plan___init.nd rfl (Or.inl rfl)) (fun _ _ _ _ _ => pts_nil) (fun _ _ _ _ _ => (pe_ix ix_seq' (pv 4) (pe_ix ix_seq' (pv 5) pe_int (fun _ _ => rfl)) (fun _ _ => rfl)))) rfl)
    (pss_one (ps_fld (pv 0) (pe_op op_add (pe_bm PySem.F.plainAttrs_list PySem.F.slot_list_count PySem.F.type_list_count (mt_countX (Nat.lt_of_le_of_lt (Nat.add_le_add_left (show 1 ≤ 64 by decide) _) hr.units)) (pv 3) (pa_cons pe_non pa_nil)) pe_int) rfl))))))))), ?_⟩
  have xl := paired_len hst
  have l1 := gd.sl
  have l2 := gd.c24
  have l3 := gd.pc
  -- the questions, all of them right
  refine ⟨fun σ' H' => σ' = [some (.ref x), some (.ref ca), some (.int pl.w), some (.ref sa), none, none] ∧ Same H H', ?_, ?_⟩
  · refine ⟨_, rfl, _, rfl, th_ints hca (by omega), fun H1 s1 => ⟨_, rfl, ?_⟩⟩
    rw [content_ok hca gd.c1 gd.c24 gd.cb]
    refine iteF ⟨_, rfl, _, "int", rfl, ⟨.int _, by decide, fun _ _ _ e => by cases e⟩, ?_⟩
    rw [width_ok gd.w1 gd.w24]
    refine ⟨_, rfl, iteF ?_⟩
    have so := steps_ok (s1 _ _ hsa) (steps_same s1 hst) (fun y hy => gd.st y hy)
    refine ⟨_, rfl, ca, _, rfl, .inr (s1 _ _ hca), _, rfl, _, rfl, _, _, .ref sa, rfl, th_steps (s1 _ _ hsa) (by omega) (steps_same s1 hst) (fun y hy => gd.st y hy) (by omega), fun z => ?_, fun _ H2 s2 => ?_⟩
    · rw [ivs_len, so] at z
      cases z
    · exact ⟨pl.w, sa, xs, pl.sts, rfl, s2 _ _ (s1 _ _ hsa), steps_same (s1.trans s2) hst, by have := gd.w1; omega, by omega, fun y hy => ok24 (gd.st y hy) gd.c24, gd.pc, fun H3 s3 => ⟨_, rfl, iteF ⟨rfl, s1.trans (s2.trans s3)⟩⟩⟩
  rintro _ H2 ⟨rfl, S2⟩
  -- the epochs of the steps
  refine ⟨_, rfl, sa, xs, pl.sts, rfl, S2 _ _ hsa, steps_same S2 hst, by omega, fun el H3 s3 hel h3 => ?_⟩
  have k3 : Ko x H H3 := fun a o _ e => (S2.trans s3) _ _ e
  have x3 : H3 x = some (.ins C dx []) := (S2.trans s3) _ _ hx
  have nca : ca ≠ x := ne_of hca hx (by intro q; cases q)
  have nsa : sa ≠ x := ne_of hsa hx (by intro q; cases q)
  have nel : el ≠ x := ne_of h3 x3 (by intro q; cases q)
  -- base, width, steps
  refine ⟨_, rfl, _, rfl, x, C, dx, _, rfl, x3, TC.cl, TC.nB, by show 0 < 1000; decide, ?_⟩
  refine ⟨_, rfl, _, rfl, x, C, dx, _, rfl, upd_same, TC.cl, TC.nW, Nat.lt_of_le_of_lt (len_put (Nat.le_refl _)) (by decide), ?_⟩
  have k5 := (k3.upd (o := .ins C dx (putF "_base" (.ref ca) []))).upd (o := .ins C dx (putF "_width" (.int pl.w) (putF "_base" (.ref ca) [])))
  have e5 : (L2.upd (L2.upd H3 x (.ins C dx (putF "_base" (.ref ca) []))) x (.ins C dx (putF "_width" (.int pl.w) (putF "_base" (.ref ca) [])))) el = some (.lst (ivs (eps 0 pl.sts))) := by rw [upd_ne nel, upd_ne nel]; exact h3
  generalize hH5 : L2.upd (L2.upd H3 x (.ins C dx (putF "_base" (.ref ca) []))) x (.ins C dx (putF "_width" (.int pl.w) (putF "_base" (.ref ca) []))) = H5 at k5 e5
  have x5 : H5 x = some (.ins C dx (putF "_width" (.int pl.w) (putF "_base" (.ref ca) []))) := by rw [← hH5]; exact upd_same
  have f5 : ∀ a, H5 a = none → H a = none := fun a e => by
    cases z : H a with
    | none => rfl
    | some o =>
      by_cases n : a = x
      · rw [n, x5] at e
        cases e
      · rw [k5 a o n z] at e
        cases e
  refine ⟨_, rfl, sa, xs, rfl, .inl (k5 _ _ nsa hsa), fun sl H6 hsl s6 h6 => ?_⟩
  have x6 := s6 _ _ x5
  have nsl : sl ≠ x := ne_of h6 x6 (by intro q; cases q)
  refine ⟨_, rfl, x, C, dx, _, rfl, x6, TC.cl, TC.nS, Nat.lt_of_le_of_lt (len_put (len_put (Nat.le_refl _))) (by decide), ?_⟩
  have k7 := (k5.same s6).upd (o := .ins C dx (putF "_steps" (.ref sl) (putF "_width" (.int pl.w) (putF "_base" (.ref ca) []))))
  -- the pieces
  refine ⟨_, rfl, _, rfl, pl.w, sa, xs, pl.sts, rfl, k7 _ _ nsa hsa, steps_ko k7 hx hst, by have := gd.w1; omega, by omega, fun y hy => ok24 (gd.st y hy) gd.c24, fun ql H8 ys s8 hql h8 pv => ?_⟩
  have ylen := paired_len pv
  have x8 := s8 _ _ (upd_same (H := H6) (a := x) (o := .ins C dx (putF "_steps" (.ref sl) (putF "_width" (.int pl.w) (putF "_base" (.ref ca) [])))))
  have k8 := k7.same s8
  have nql : ql ≠ x := ne_of h8 x8 (by intro q; cases q)
  refine ⟨_, rfl, x, C, dx, _, rfl, x8, TC.cl, TC.nP, Nat.lt_of_le_of_lt (len_put (len_put (len_put (Nat.le_refl _)))) (by decide), ?_⟩
  have sl8 : H8 sl = some (.lst xs) := s8 _ _ (by rw [upd_ne nsl]; exact h6)
  have el8 : H8 el = some (.lst (ivs (eps 0 pl.sts))) := s8 _ _ (by rw [upd_ne nel]; exact s6 _ _ e5)
  -- their epochs
  have k9 := k8.upd (o := .ins C dx (putF "_pieces" (.ref ql) (putF "_steps" (.ref sl) (putF "_width" (.int pl.w) (putF "_base" (.ref ca) [])))))
  have q9 : (L2.upd H8 x (.ins C dx (putF "_pieces" (.ref ql) (putF "_steps" (.ref sl) (putF "_width" (.int pl.w) (putF "_base" (.ref ca) [])))))) ql = some (.lst ys) := by rw [upd_ne nql]; exact h8
  have el9 : (L2.upd H8 x (.ins C dx (putF "_pieces" (.ref ql) (putF "_steps" (.ref sl) (putF "_width" (.int pl.w) (putF "_base" (.ref ca) [])))))) el = some (.lst (ivs (eps 0 pl.sts))) := by rw [upd_ne nel]; exact el8
  have sl9 : (L2.upd H8 x (.ins C dx (putF "_pieces" (.ref ql) (putF "_steps" (.ref sl) (putF "_width" (.int pl.w) (putF "_base" (.ref ca) [])))))) sl = some (.lst xs) := by rw [upd_ne nsl]; exact sl8
  have p9 : Paired (PieceA (L2.upd H8 x (.ins C dx (putF "_pieces" (.ref ql) (putF "_steps" (.ref sl) (putF "_width" (.int pl.w) (putF "_base" (.ref ca) []))))))) ys (allP pl.w 0 pl.sts) := L2.Paired.mapP pv fun v p z => by
    obtain ⟨t, b, e, ht, hb⟩ := z
    exact ⟨t, b, e, by rw [upd_ne (ne_of ht x8 (by intro q; cases q))]; exact ht, by rw [upd_ne (ne_of hb x8 (by intro q; cases q))]; exact hb⟩
  have x9 : (L2.upd H8 x (.ins C dx (putF "_pieces" (.ref ql) (putF "_steps" (.ref sl) (putF "_width" (.int pl.w) (putF "_base" (.ref ca) [])))))) x = _ := upd_same
  generalize L2.upd H8 x (.ins C dx (putF "_pieces" (.ref ql) (putF "_steps" (.ref sl) (putF "_width" (.int pl.w) (putF "_base" (.ref ca) []))))) = H9 at k9 q9 el9 sl9 p9 x9
  refine ⟨_, rfl, x, C, dx, _, _, rfl, x9, TC.cl, TC.nP, put_at, ql, rfl, ⟨ys, SqL.of q9⟩, fun D hD => lc_list (K := K) (a := ql) (xs := ys) (fun i H' => Same H9 H' ∧ H' D = some (.lst (ivs ((pieceE pl.sts (allP pl.w 0 pl.sts)).take i)))) ?_ ?_ ?_ ?_⟩
  · exact ⟨same_new hD, upd_same⟩
  · rintro i H' _ ⟨s10, _⟩
    exact SqL.of (s10 _ _ q9)
  · rintro i y H' hy ⟨s10, h10⟩
    have il : i < ys.length := (List.getElem?_eq_some_iff.mp hy).1
    obtain ⟨p, hp1, t, b, rfl, ht, hb⟩ := paired_get p9 hy
    obtain ⟨j, hj1, _, hj2⟩ := allP_in (List.mem_of_getElem? hp1)
    have jl : j < (eps 0 pl.sts).length := by rw [eps_len]; omega
    have ge : (pieceE pl.sts (allP pl.w 0 pl.sts))[i]? = some (eps 0 pl.sts)[j] := by
      unfold pieceE
      rw [List.getElem?_map, hp1]
      show some (((eps 0 pl.sts)[p.1.toNat]?).getD 0) = _
      rw [hj1, Int.toNat_natCast, List.getElem?_eq_getElem jl]
      rfl
    have ht' := s10 _ _ ht
    rw [hj1] at ht'
    refine ⟨rfl, _, rfl, _, rfl, t, _, _, _, rfl, rfl, .inr ht', rfl, el, _, _, _, rfl, rfl, .inl (s10 _ _ el9), atI_nat (ivs_get jl), _, h10, szl (by rw [ivs_len, List.length_take]; omega), same_mut s10 hD, ?_⟩
    rw [upd_same, List.take_add_one, ge]
    unfold ivs
    rw [List.map_append]
    rfl
  · rintro H10 ⟨s10, h10⟩
    have pl' : (pieceE pl.sts (allP pl.w 0 pl.sts)).length = ys.length := by
      unfold pieceE
      rw [List.length_map, ylen]
    rw [← pl', List.take_length] at h10
    have x10 := s10 _ _ x9
    have nD : D ≠ x := ne_of h10 x10 (by intro q; cases q)
    refine ⟨_, rfl, x, C, dx, _, rfl, x10, TC.cl, TC.nE, Nat.lt_of_le_of_lt (len_put (len_put (len_put (len_put (Nat.le_refl _))))) (by decide), ?_⟩
    have k11 := (k9.same s10).upd (o := .ins C dx (putF "_piece_epochs" (.ref D) (putF "_pieces" (.ref ql) (putF "_steps" (.ref sl) (putF "_width" (.int pl.w) (putF "_base" (.ref ca) []))))))
    refine ⟨_, rfl, .inl ⟨rfl, _, SqL.of (k11 _ _ nsa hsa)⟩, sa, xs, _, rfl, rfl, SqL.of (k11 _ _ nsa hsa), dp_steps (steps_ko k11 hx hst), (lay_steps _).1, ⟨_, _, rfl, rfl, ?_⟩⟩
    refine ⟨_, rfl, x, C, dx, _, rfl, upd_same, TC.cl, TC.nN, Nat.lt_of_le_of_lt (len_put (len_put (len_put (len_put (len_put (Nat.le_refl _)))))) (by decide), ?_⟩
    rw [bars_count]
    have f8 : ∀ c, (L2.upd H6 x (.ins C dx (putF "_steps" (.ref sl) (putF "_width" (.int pl.w) (putF "_base" (.ref ca) []))))) c = none → H c = none := fun c e => by
      cases z : H c with
      | none => rfl
      | some o =>
        by_cases n : c = x
        · rw [n, upd_same] at e
          cases e
        · rw [k7 c o n z] at e
          cases e
    have f9 : ∀ c, H9 c = none → H c = none := fun c e => by
      cases z : H c with
      | none => rfl
      | some o =>
        by_cases n : c = x
        · rw [n, x9] at e
          cases e
        · rw [k9 c o n z] at e
          cases e
    refine k _ sl ql D _ ys k11.upd (f5 _ hsl) (f8 _ hql) (f9 _ hD) upd_same ?_ ?_ ?_ ?_ ?_ put_at (by rfl) ?_ ?_ ?_ ?_
    · exact put_no (put_no (put_no (put_no (put_no put_at))))
    · exact put_no (put_no (put_no (put_no put_at)))
    · exact put_no (put_no (put_no put_at))
    · exact put_no (put_no put_at)
    · exact put_no put_at
    · rw [upd_ne nsl, upd_ne nsl]
      exact s10 _ _ sl9
    · rw [upd_ne nql, upd_ne nql]
      exact s10 _ _ q9
    · refine L2.Paired.mapP p9 fun v p z => ?_
      obtain ⟨t, b, e, ht, hb⟩ := z
      have ht' := s10 _ _ ht
      have hb' := s10 _ _ hb
      exact ⟨t, b, e, by rw [upd_ne (ne_of ht' x10 (by intro q; cases q)), upd_ne (ne_of ht' x10 (by intro q; cases q))]; exact ht', by rw [upd_ne (ne_of hb' x10 (by intro q; cases q)), upd_ne (ne_of hb' x10 (by intro q; cases q))]; exact hb'⟩
    · rw [upd_ne nD, upd_ne nD]
      exact h10
end
end Af

set_option Elab.async false
set_option linter.all false
set_option maxRecDepth 100000
namespace Af
open PySem L2
/-- a plan's tuple with its list of steps told -/
def sp_parts : Sp := fun vs H Q _ => ∃ (a ca sa : Addr) (sp : Int) (xs : List V) (sts : List Stp), vs = [.ref a] ∧ H a = some (.tup [.ref ca, .int sp, .ref sa]) ∧ H sa = some (.lst xs) ∧ Paired (StepV H) xs sts ∧ 0 < sp ∧ xs.length ≤ 100 ∧
  (∀ f ws, some (f, ws) ∈ sts → ws.length ≤ 100) ∧ ∀ l H' ys, Same H H' → H l = none → H' l = some (.lst ys) → Q (.ref l) H'
def sp_write : Sp := fun vs H Q _ => ∃ (q : Pn) (m : Nat) (many kinds lo : Int), vs = [.ref q.p, .int many, .int kinds, .int lo] ∧ Pen q m H ∧ m + 30 < 1000000000000 ∧ 1 ≤ many ∧ many ≤ 24 ∧ 1 ≤ kinds ∧ kinds ≤ 8 ∧ 1 ≤ lo ∧ lo ≤ 24 ∧
  ∀ v H' f ws, Go q (m + 30) H H' → StepV H' v (some (f, ws)) → 0 ≤ f → ws ≠ [] → (ws.length : Int) ≤ lo → f + (ws.length : Int) ≤ many → (∀ z ∈ ws, 0 ≤ z ∧ z < kinds) → Q v H'
section
variable {P : Program} {w : World} {K : PySem.W.Frag} {mg : Str → Option Value} {base : Heap}
theorem weak_parts {f : Addr} {fd : FuncData} (F : FnOk P w K mg base CX0 2 f fd ["_law_plan_here"] sp_partsX) : FnOk P w K mg base CX0 2 f fd ["_law_plan_here"] sp_parts :=
  F.imp fun vs H Q E h => by
    obtain ⟨a, ca, sa, sp, xs, sts, e, h1, h2, h3, h4, h5, h6, k⟩ := h
    exact ⟨a, ca, sa, sp, xs, sts, e, h1, h2, h3, h4, h5, h6, fun l H' ys s hl h7 _ => k l H' ys s hl h7⟩
theorem ok_write {f : Addr} {fd : FuncData} (F : Fun K "_law_write" "_law_write" s_l_write f fd) (T : Txt mg) (c_l_draw : Cal P w K mg base 2 "_law_draw" ["_law_pen_here", "_law_under"] sp_draw) :
    FnOk P w K mg base CX0 3 f fd ["_law_pen_here", "_law_many", "_law_kinds", "_law_longest_row"] sp_write := by
  refine F.ok sc_l_write (fun vs H Q E h => ?_) (fun cdv A outer s H vs Q E hr h => ?_)
  · obtain ⟨_, _, _, _, _, rfl, _⟩ := h
    rfl
  obtain ⟨q, m, many, kinds, lo, rfl, hP, hm, m1, m2, k1, k2, l1, l2, k⟩ := h
  refine ⟨_, (pss_cons (ps_set (i := 4) sc_l_write.nd rfl (Or.inl rfl) (pe_cal c_l_draw hr (pa_cons (pv 0) (pa_cons (pv 1) pa_nil))))
    (pss_cons (ps_set (i := 5) sc_l_write.nd rfl (Or.inl rfl) (pe_callB (call_min2 rfl) (by rfl) T.min (by decide +kernel) (pa_cons (pv 3) (pa_cons (pe_op op_sub (pv 1) (pv 4)) pa_nil))))
    (pss_one (ps_ret (pe_tup' (pa_cons (pv 4) (pa_cons (pe_callTy call_tuple' (by rfl) T.tuple (by decide +kernel) (pa_cons (pe_lc (own := [("_law_k", 6)]) (g := (gName 6)) (tt := tYes) rfl sc_l_write.nd (pi_range1 rfl T.range (pa_cons (pe_op op_add pe_int (pe_cal c_l_draw hr (pa_cons (pv 0) (pa_cons (pv 5) pa_nil)))) pa_nil)) (blkOk_by (own := [("_law_k", 6)]) (N := N_l_write) (sc := defScope s_l_write) (by decide +kernel)) (fun _ _ _ _ _ => pg_name (i := 6) sc_l_write.nd rfl (Or.inl rfl)) (fun _ _ _ _ _ => pts_nil) (fun _ _ _ _ _ => (pe_cal c_l_draw hr (pa_cons (pv 0) (pa_cons (pv 2) pa_nil))))) pa_nil)) pa_nil))))))), ?_⟩
  refine ⟨_, rfl, _, rfl, q, m, many, rfl, by omega, by omega, hP, by omega, fun d H1 d0 d1 g1 => ?_⟩
  refine ⟨_, rfl, _, rfl, _, rfl, _, _, rfl, rfl, _, _, rfl, ?_⟩
  have hmore : ∃ more : Int, (if many - d < lo then many - d else lo) = more ∧ 1 ≤ more ∧ more ≤ lo ∧ d + more ≤ many := by
    by_cases c : many - d < lo
    · rw [if_pos c]
      exact ⟨_, rfl, by omega, by omega, by omega⟩
    · rw [if_neg c]
      exact ⟨_, rfl, by omega, by omega, by omega⟩
  obtain ⟨more, e, r1, r2, r3⟩ := hmore
  rw [e]
  refine ⟨_, rfl, _, rfl, _, rfl, q, m + 1, more, rfl, by omega, by omega, g1.pen, by omega, fun d2 H2 d20 d21 g2 => ⟨_, _, rfl, rfl, _, rfl, ?_, ?_, ?_⟩⟩
  · omega
  · omega
  refine lc_draws (q := q) (m := m + 1 + 1) (u := kinds) g2.pen ?_ ?_ (fun x H3 Q m3 p3 h3 kk => ?_) (fun D H3 ns hD g3 h3 hl hb => ?_)
  · omega
  · exact fun x => rfl
  · exact ⟨_, rfl, _, rfl, q, m3, kinds, rfl, by omega, by omega, p3, by omega, kk⟩
  · refine ⟨D, _, rfl, .inl h3, fun t H4 s4 h4 => ⟨szr, fun r H5 hr5 s5 h5 => ?_⟩⟩
    have gg := g1.trans (g2.trans g3)
    have hlen : ns.length = (1 + d2).toNat := hl
    refine k _ H5 d ns (((gg.same s4).same s5).mono (by omega)) ⟨r, t, rfl, h5, s5 _ _ h4⟩ d0 ?_ (by omega) (by omega) hb
    intro z
    rw [z] at hlen
    have : (0 : Nat) = (1 + d2).toNat := hlen
    omega
end
end Af

set_option Elab.async false
set_option linter.all false
set_option maxRecDepth 100000
namespace Af
open PySem L2
abbrev s_l_drawn : Stmt := top 71
abbrev N_l_drawn : List Str := ["_law_pen_here", "_law_many", "_law_most", "_law_kinds", "_law_cells_here", "_law_plan_here", "_law_turn", "_law_longer", "_law_k"]
theorem sc_l_drawn : FnScope N_l_drawn ["_law_pen_here", "_law_many", "_law_most", "_law_kinds"] (defScope s_l_drawn) := ⟨rfl, rfl, rfl, by decide +kernel, rfl, by decide +kernel, by decide +kernel⟩

abbrev s_l_log : Stmt := top 72
abbrev N_l_log : List Str := ["_law_pen_here", "_law_kinds", "_law_news", "_law_steps_here", "_law_step_here"]
theorem sc_l_log : FnScope N_l_log ["_law_pen_here", "_law_kinds"] (defScope s_l_log) := ⟨rfl, rfl, rfl, by decide +kernel, rfl, by decide +kernel, by decide +kernel⟩

abbrev s_l_copy : Stmt := top 73
abbrev N_l_copy : List Str := ["_law_pen_here", "_law_kinds", "_law_news", "_law_steps_here"]
theorem sc_l_copy : FnScope N_l_copy ["_law_pen_here", "_law_kinds"] (defScope s_l_copy) := ⟨rfl, rfl, rfl, by decide +kernel, rfl, by decide +kernel, by decide +kernel⟩

abbrev s_l_plan : Stmt := top 74
abbrev N_l_plan : List Str := ["_law_pen_here", "_law_most", "_law_road"]
theorem sc_l_plan : FnScope N_l_plan ["_law_pen_here", "_law_most"] (defScope s_l_plan) := ⟨rfl, rfl, rfl, by decide +kernel, rfl, by decide +kernel, by decide +kernel⟩

def sp_drawn : Sp := fun vs H Q _ => ∃ (q : Pn) (m : Nat) (many most kinds : Int), vs = [.ref q.p, .int many, .int most, .int kinds] ∧ Pen q m H ∧ m + 2000 < 1000000000000 ∧ 1 ≤ many ∧ many ≤ 24 ∧ 0 ≤ most ∧ most ≤ 12 ∧ 1 ≤ kinds ∧ kinds ≤ 8 ∧
  ∀ v H' pl, Go q (m + 2000) H H' → PlanV q.p H' v pl → Good (2 * most.toNat) (3 * most.toNat) pl → pl.cs.length = many.toNat → ((allP pl.w 0 pl.sts).length : Int) ≤ most → Q v H'
def sp_log : Sp := fun vs H Q _ => ∃ (q : Pn) (m : Nat) (kinds : Int), vs = [.ref q.p, .int kinds] ∧ Pen q m H ∧ m + 20 < 1000000000000 ∧ 1 ≤ kinds ∧ kinds ≤ 8 ∧
  ∀ v H' pl, Go q (m + 20) H H' → PlanV q.p H' v pl → Good 10 10 pl → pl.cs.length = 5 → Q v H'
def sp_copy : Sp := fun vs H Q _ => ∃ (q : Pn) (m : Nat) (kinds : Int), vs = [.ref q.p, .int kinds] ∧ Pen q m H ∧ m + 20 < 1000000000000 ∧ 1 ≤ kinds ∧ kinds ≤ 8 ∧
  ∀ v H' pl, Go q (m + 20) H H' → PlanV q.p H' v pl → Good 10 10 pl → pl.cs.length = 5 → tot pl.sts ≤ 3 → Q v H'
def sp_plan : Sp := fun vs H Q _ => ∃ (q : Pn) (m : Nat) (most : Int), vs = [.ref q.p, .int most] ∧ Pen q m H ∧ m + 2100 < 1000000000000 ∧ 5 ≤ most ∧ most ≤ 12 ∧
  ∀ v H' pl, Go q (m + 2100) H H' → PlanV q.p H' v pl → Good (2 * most.toNat) (3 * most.toNat) pl → pl.cs.length ≤ 5 → (most = 5 → (allP pl.w 0 pl.sts).length ≤ 5) → Q v H'
section
variable {P : Program} {w : World} {K : PySem.W.Frag} {mg : Str → Option Value} {base : Heap}
theorem ok_drawn {f : Addr} {fd : FuncData} (F : Fun K "_law_drawn" "_law_drawn" s_l_drawn f fd) (T : Txt mg) (c_l_draw : Cal P w K mg base 2 "_law_draw" ["_law_pen_here", "_law_under"] sp_draw)
    (c_l_parts : Cal P w K mg base 2 "_law_parts" ["_law_plan_here"] sp_partsX) (c_l_write : Cal P w K mg base 3 "_law_write" ["_law_pen_here", "_law_many", "_law_kinds", "_law_longest_row"] sp_write) :
    FnOk P w K mg base CX0 4 f fd ["_law_pen_here", "_law_many", "_law_most", "_law_kinds"] sp_drawn := by
  refine F.ok sc_l_drawn (fun vs H Q E h => ?_) (fun cdv A outer s H vs Q E hr h => ?_)
  · obtain ⟨_, _, _, _, _, rfl, _⟩ := h
    rfl
  obtain ⟨q, m, many, most, kinds, rfl, hP, hm, m1, m2, o1, o2, k1, k2, k⟩ := h
  refine ⟨_, (pss_cons (ps_set (i := 4) sc_l_drawn.nd rfl (Or.inl rfl) (pe_callTy call_tuple' (by rfl) T.tuple (by decide +kernel) (pa_cons (pe_lc (own := [("_law_k", 8)]) (g := (gName 8)) (tt := tYes) rfl sc_l_drawn.nd (pi_range1 rfl T.range (pa_cons (pv 1) pa_nil)) (blkOk_by (own := [("_law_k", 8)]) (N := N_l_drawn) (sc := defScope s_l_drawn) (by decide +kernel)) (fun _ _ _ _ _ => pg_name (i := 8) sc_l_drawn.nd rfl (Or.inl rfl)) (fun _ _ _ _ _ => pts_nil) (fun _ _ _ _ _ => (pe_cal c_l_draw hr (pa_cons (pv 0) (pa_cons (pv 3) pa_nil))))) pa_nil)))
    (pss_cons (ps_set (i := 5) sc_l_drawn.nd rfl (Or.inl rfl) (pe_tup' (pa_cons (pv 4) (pa_cons (pe_op op_add pe_int (pe_cal c_l_draw hr (pa_cons (pv 0) (pa_cons pe_int pa_nil)))) (pa_cons (pe_lst' pa_nil) pa_nil)))))
    (pss_cons (ps_for PassesOwn.never rfl (pi_range1 rfl T.range (pa_cons (pe_cal c_l_draw hr (pa_cons (pv 0) (pa_cons (pe_op op_add (pv 2) pe_int) pa_nil))) pa_nil)) (pg_name (i := 6) sc_l_drawn.nd rfl (Or.inl rfl))
      (pss_cons (ps_set (i := 7) sc_l_drawn.nd rfl (Or.inl rfl) (pe_op op_cat' (pe_ix ix_seq' (pv 5) pe_int (fun _ _ => rfl)) (pe_lst' (pa_cons (pe_cal c_l_write hr (pa_cons (pv 0) (pa_cons (pv 1) (pa_cons (pv 3) (pa_cons pe_int pa_nil))))) pa_nil))))
    (pss_cons (ps_cut (ps_if (pt_cmpR op_le (pe_callB call_len' (by rfl) T.len (by decide +kernel) (pa_cons (pe_cal c_l_parts hr (pa_cons (pe_tup' (pa_cons (pv 4) (pa_cons (pe_ix ix_seq' (pv 5) pe_int (fun _ _ => rfl)) (pa_cons (pv 7) pa_nil)))) pa_nil)) pa_nil)) (pv 2) (nomark _))
      (pss_one (ps_set (i := 5) sc_l_drawn.nd rfl (Or.inl rfl) (pe_tup' (pa_cons (pv 4) (pa_cons (pe_ix ix_seq' (pv 5) pe_int (fun _ _ => rfl)) (pa_cons (pv 7) pa_nil))))))
      pss_nil))
    (pss_one (ps_if (pt_cmpR op_eq (pe_cal c_l_draw hr (pa_cons (pv 0) (pa_cons pe_int pa_nil))) pe_int (nomark _))
      (pss_one (ps_set (i := 5) sc_l_drawn.nd rfl (Or.inl rfl) (pe_tup' (pa_cons (pv 4) (pa_cons (pe_ix ix_seq' (pv 5) pe_int (fun _ _ => rfl)) (pa_cons (pe_op op_cat' (pe_ix ix_seq' (pv 5) pe_int (fun _ _ => rfl)) (pe_lst' (pa_cons pe_non pa_nil))) pa_nil))))))
      pss_nil)))))
    (pss_one (ps_ret (pv 5)))))), ?_⟩
  -- the cells
  refine ⟨_, rfl, _, rfl, ?_, ?_, ?_⟩
  · omega
  · omega
  refine lc_draws (q := q) (m := m) (u := kinds) hP ?_ ?_ (fun x H3 Q m3 p3 h3 kk => ?_) (fun D H1 cs hD g1 h1 hl hb => ?_)
  · omega
  · exact fun x => rfl
  · exact ⟨_, rfl, _, rfl, q, m3, kinds, rfl, by omega, by omega, p3, by omega, kk⟩
  refine ⟨D, _, rfl, .inl h1, fun ca H2 s2 h2 => ?_⟩
  -- the plan without steps
  have g2 := (g1.same s2).mono (m' := m + 24) (by omega)
  refine ⟨_, rfl, _, rfl, q, m + 24, 3, rfl, by decide, by decide, g2.pen, by omega, fun d H3 d0 d1 g3 => ⟨_, _, rfl, rfl, szr, fun l H4 hl4 s4 h4 => ⟨szr, fun t H5 ht s5 h5 => ?_⟩⟩⟩
  have g5 := ((g2.trans g3).same s4).same s5
  -- the turns
  refine ⟨_, rfl, _, rfl, _, _, rfl, rfl, q, m + 25, most + 1, rfl, by omega, by omega, g5.pen, by omega, fun n H6 n0 n1 g6 => ⟨_, rfl, by omega, by omega, ?_⟩⟩
  have g7 := g5.trans g6
  have c6 : H6 ca = some (.tup (ivs cs)) := g6.kp.tup (s5 _ _ (s4 _ _ (g3.kp.tup h2)))
  have hcs : cs.length = many.toNat := hl
  refine for_range (lo := 0) (fun i σ' H' => ∃ v pl lv kv, σ' = [some (.ref q.p), some (.int many), some (.int most), some (.int kinds), some (.ref ca), some v, kv, lv, none] ∧ Go q (m + 26 + 31 * i) H H' ∧ H' ca = some (.tup (ivs cs)) ∧ PlanV q.p H' v pl ∧ pl.cs = cs ∧ Good (2 * i) (3 * i) pl ∧ ((allP pl.w 0 pl.sts).length : Int) ≤ most) ?_ ?_ ?_
  · refine ⟨.ref t, ⟨cs, 1 + d, []⟩, none, none, rfl, g7, c6, ?_, rfl, ?_, o1⟩
    · refine (PlanV.mk ⟨t, ca, l, [], rfl, h5, s5 _ _ (s4 _ _ (g3.kp.tup h2)), (g3.pen.free hl4).1, s5 _ _ h4, .nil⟩ : PlanV q.p H5 (.ref t) ⟨cs, 1 + d, []⟩).kp g6.kp
    · exact ⟨by show 1 ≤ cs.length; omega, by show cs.length ≤ 24; omega, fun z hz => by have := hb z hz; omega, by show 1 ≤ 1 + d; omega, by show 1 + d ≤ 24; omega, fun x hx => by simp at hx, Nat.le_refl _, Nat.le_refl _⟩
  · rintro i σ' H' hi ⟨v, pl, lv, kv, rfl, gi, ci, hv, ec, gd, ab⟩
    have hi' : (i : Int) < most := by omega
    obtain ⟨a, ca', sa, xs, rfl, ha, hca, hn, hsa, hst⟩ := hv.ex
    -- longer
    refine ⟨_, rfl, a, _, _, _, rfl, rfl, .inr ha, rfl, _, rfl, _, rfl, _, rfl, q, _, many, kinds, 3, rfl, gi.pen, by omega, by omega, by omega, by omega, by omega, by decide, by decide, fun wv H1 f ws gw hsv f0 wn wl wm wb => ⟨szr, fun ll H2 hll s2' h2' => ?_⟩⟩
    have xl := paired_len hst
    have sl := gd.sl
    refine ⟨sa, ll, xs, _, rfl, rfl, s2' _ _ (gw.kp.lst hn hsa), h2', sz (by show xs.length + 1 ≤ 100000; omega), fun r H3 hr3 s3' h3' => ?_⟩
    have g3' := (gw.same s2').same s3'
    have st3 : Paired (StepV H3) (xs ++ [wv]) (pl.sts ++ [some (f, ws)]) := steps_same s3' (steps_same s2' (paired_app (steps_kp gw.kp hst) (.cons hsv .nil)))
    have a3 := g3'.kp.tup ha
    have c3 := g3'.kp.tup ci
    have v3 := hv.kp g3'.kp
    refine ⟨fun σ'' H'' => ∃ v pl lv kv, σ'' = [some (.ref q.p), some (.int many), some (.int most), some (.int kinds), some (.ref ca), some v, kv, lv, none] ∧ Go q (m + 56 + 31 * i) H H'' ∧ H'' ca = some (.tup (ivs cs)) ∧ PlanV q.p H'' v pl ∧ pl.cs = cs ∧ Good (2 * i + 1) (3 * i + 3) pl ∧ ((allP pl.w 0 pl.sts).length : Int) ≤ most, ?_, ?_⟩
    · refine ⟨_, rfl, _, rfl, a, _, _, _, rfl, rfl, .inr a3, rfl, _, rfl, szr, fun tt H4 htt s4' h4' => ?_⟩
      have okl : ∀ f ws, some (f, ws) ∈ pl.sts ++ [some (f, ws)] → True := fun _ _ _ => trivial
      refine ⟨tt, ca, r, pl.w, xs ++ [wv], pl.sts ++ [some (f, ws)], rfl, h4', s4' _ _ h3', steps_same s4' st3, by have := gd.w1; omega, by rw [List.length_append]; show xs.length + 1 ≤ 100; omega, fun f' ws' hm' => ?_, fun pl2 H5 ys s5' hp2 h5' hPX => ?_⟩
      · rcases List.mem_append.mp hm' with z | z
        · have q1 := gd.st _ z
          obtain ⟨q2, _, q3, _⟩ := q1
          have := gd.c24
          omega
        · cases List.mem_singleton.mp z
          omega
      · have gg := (gi.trans g3').same s4' |>.same s5'
        refine ⟨pl2, _, rfl, .inl h5', _, rfl, _, _, rfl, rfl, _, rfl, ite2 (fun zz => ?_) (fun _ => ?_)⟩
        · have ab2 : ((allP pl.w 0 (pl.sts ++ [some (f, ws)])).length : Int) ≤ most := by
            have e1 := paired_len hPX
            have e2 := of_decide_eq_true zz
            omega
          have a5 := s5' _ _ (s4' _ _ a3)
          refine ⟨_, rfl, _, rfl, a, _, _, _, rfl, rfl, .inr a5, rfl, _, rfl, szr, fun t2 H6 ht2 s6' h6' => ?_⟩
          have c6' := s6' _ _ (s5' _ _ (s4' _ _ c3))
          refine ⟨.ref t2, ⟨cs, pl.w, pl.sts ++ [some (f, ws)]⟩, _, _, rfl, (gg.same s6').mono (by omega), c6', ⟨t2, ca, r, _, rfl, h6', c6', ?_, s6' _ _ (s5' _ _ (s4' _ _ h3')), steps_same s6' (steps_same s5' (steps_same s4' st3))⟩, rfl, ?_, ab2⟩
          · exact ((gw.same s2').pen.free hr3).1
          · refine ⟨by show 1 ≤ cs.length; omega, by show cs.length ≤ 24; omega, fun z hz => by have := hb z hz; omega, gd.w1, gd.w24, fun x hx => ?_, ?_, ?_⟩
            · rcases List.mem_append.mp hx with z | z
              · have := gd.st x z
                rw [ec] at this
                exact this
              · rw [List.mem_singleton.mp z]
                exact ⟨f0, wn, by show f + (ws.length : Int) ≤ (cs.length : Int); omega, fun z hz => by have := wb z hz; omega⟩
            · show (pl.sts ++ [some (f, ws)]).length ≤ _
              rw [List.length_append]
              show pl.sts.length + 1 ≤ _
              omega
            · show tot (pl.sts ++ [some (f, ws)]) ≤ _
              rw [tot_app, tot_one]
              have := gd.tl
              show tot pl.sts + ws.length ≤ _
              omega
        · exact ⟨.ref a, pl, _, _, rfl, gg.mono (by omega), s5' _ _ (s4' _ _ c3), (v3.same s4').same s5', ec, gd.mono (by omega) (by omega), ab⟩
    · rintro σ'' H'' ⟨v, pl, lv, kv, rfl, gj, cj, hv, ec, gd, ab⟩
      refine ⟨_, rfl, q, _, 3, rfl, by decide, by decide, gj.pen, by omega, fun d H1 d0 d1 g1 => ⟨rfl, _, rfl, ite2 (fun _ => ?_) (fun _ => ?_)⟩⟩
      · have ab3 : ((allP pl.w 0 (pl.sts ++ [none])).length : Int) ≤ most := by
          rw [allP_snoc]
          show ((allP pl.w 0 pl.sts ++ []).length : Int) ≤ most
          rw [List.append_nil]
          exact ab
        have hv1 := hv.kp g1.kp
        obtain ⟨a, ca', sa, xs, rfl, ha, hca, hn, hsa, hst⟩ := hv1.ex
        have xl := paired_len hst
        have sl := gd.sl
        refine ⟨_, rfl, _, rfl, a, _, _, _, rfl, rfl, .inr ha, rfl, _, rfl, a, _, _, _, rfl, rfl, .inr ha, rfl, szr, fun ll H2 hll s2' h2' => ?_⟩
        refine ⟨sa, ll, xs, _, rfl, rfl, s2' _ _ hsa, h2', sz (by show xs.length + 1 ≤ 100000; omega), fun r H3 hr3 s3' h3' => ⟨szr, fun t2 H4 ht2 s4' h4' => ?_⟩⟩
        have gg := ((((gj.trans g1).same s2').same s3').same s4')
        have c4 := s4' _ _ (s3' _ _ (s2' _ _ (g1.kp.tup cj)))
        refine ⟨.ref t2, ⟨cs, pl.w, pl.sts ++ [none]⟩, _, _, rfl, gg.mono (by omega), c4, ⟨t2, ca, r, _, rfl, h4', c4, ((g1.same s2').pen.free hr3).1, s4' _ _ h3', steps_same s4' (steps_same s3' (steps_same s2' (paired_app hst (.cons rfl .nil))))⟩, rfl, ?_, ab3⟩
        refine ⟨by show 1 ≤ cs.length; omega, by show cs.length ≤ 24; omega, fun z hz => by have := hb z hz; omega, gd.w1, gd.w24, fun x hx => ?_, ?_, ?_⟩
        · rcases List.mem_append.mp hx with z | z
          · have := gd.st x z
            rw [ec] at this
            exact this
          · rw [List.mem_singleton.mp z]
            exact True.intro
        · show (pl.sts ++ [none]).length ≤ _
          rw [List.length_append]
          show pl.sts.length + 1 ≤ _
          omega
        · show tot (pl.sts ++ [none]) ≤ _
          rw [tot_app, tot_one]
          have := gd.tl
          show tot pl.sts + 0 ≤ _
          omega
      · exact ⟨v, pl, _, _, rfl, (gj.trans g1).mono (by omega), g1.kp.tup cj, hv.kp g1.kp, ec, gd.mono (by omega) (by omega), ab⟩
  · rintro σ' H' ⟨v, pl, lv, kv, rfl, gi, ci, hv, ec, gd, ab⟩
    exact ⟨_, rfl, k v H' pl (gi.mono (by omega)) hv (gd.mono (by omega) (by omega)) (by rw [ec]; exact hcs) ab⟩
end
end Af

set_option Elab.async false
set_option linter.all false
set_option maxRecDepth 100000
namespace Af
open PySem L2
theorem spl_len1 {w f : Int} {ws : List Int} (h : ws ≠ []) : (spl w f [] f ws).length ≤ ws.length := by
  cases ws with
  | nil => exact absurd rfl h
  | cons x r =>
    rw [spl_go (by simp), List.length_cons]
    exact spl_len r _ _ _
theorem allP_tot {w : Int} {n : Nat} : ∀ {l : List Stp} {i : Nat}, (∀ x ∈ l, OkS n x) → (allP w i l).length ≤ tot l
  | [], _, _ => Nat.le_refl _
  | a :: l, i, h => by
    have ih := allP_tot (w := w) (l := l) (i := i + 1) fun x hx => h x (List.mem_cons_of_mem _ hx)
    have e : allP w i (a :: l) = oneP w i a ++ allP w (i + 1) l := rfl
    rw [e, List.length_append, tot_cons]
    have o := h a List.mem_cons_self
    cases a with
    | none =>
      show 0 + _ ≤ 0 + _
      omega
    | some fw =>
      obtain ⟨f, ws⟩ := fw
      obtain ⟨_, o2, _⟩ := o
      have z : (oneP w i (some (f, ws))).length ≤ ws.length := by
        show ((spl w f [] f ws).map _).length ≤ _
        rw [List.length_map]
        exact spl_len1 o2
      have e2 : stl (some (f, ws)) = ws.length := rfl
      omega
/-- no or one barrier -/
theorem rep_none {kk : Int} (h : kk = 0 ∨ kk = 1) {H : Hp} : ∃ bs : List Stp, Paired (StepV H) (List.replicate kk.toNat [V.non]).flatten bs ∧ bs.length ≤ 1 ∧ tot bs = 0 ∧ ∀ x ∈ bs, x = none := by
  rcases h with h | h
  · subst h
    exact ⟨[], .nil, Nat.zero_le _, rfl, fun x hx => by simp at hx⟩
  · subst h
    exact ⟨[none], .cons rfl .nil, Nat.le_refl _, rfl, fun x hx => List.mem_singleton.mp hx⟩
theorem one_or {c : Bool} : ∃ kk : Int, (if c = true then (1 : Int) else 0) = kk ∧ (kk = 0 ∨ kk = 1) := by
  cases c with
  | true => exact ⟨1, rfl, .inr rfl⟩
  | false => exact ⟨0, rfl, .inl rfl⟩
theorem rep_len {kk : Int} (h : kk = 0 ∨ kk = 1) : (List.replicate kk.toNat [V.non]).flatten.length ≤ 1 := by
  rcases h with h | h <;> (subst h; decide)
section
variable {P : Program} {w : World} {K : PySem.W.Frag} {mg : Str → Option Value} {base : Heap}
theorem ok_log {f : Addr} {fd : FuncData} (F : Fun K "_law_log" "_law_log" s_l_log f fd) (T : Txt mg) (c_l_draw : Cal P w K mg base 2 "_law_draw" ["_law_pen_here", "_law_under"] sp_draw) :
    FnOk P w K mg base CX0 3 f fd ["_law_pen_here", "_law_kinds"] sp_log := by
  refine F.ok sc_l_log (fun vs H Q E h => ?_) (fun cdv A outer s H vs Q E hr h => ?_)
  · obtain ⟨_, _, _, rfl, _⟩ := h
    rfl
  obtain ⟨q, m, kinds, rfl, hP, hm, k1, k2, k⟩ := h
  refine ⟨_, (pss_cons (ps_set (i := 2) sc_l_log.nd rfl (Or.inl rfl) (pe_tup' (pa_cons (pe_cal c_l_draw hr (pa_cons (pv 0) (pa_cons (pv 1) pa_nil))) (pa_cons (pe_cal c_l_draw hr (pa_cons (pv 0) (pa_cons (pv 1) pa_nil))) pa_nil))))
    (pss_cons (ps_set (i := 3) sc_l_log.nd rfl (Or.inl rfl) (pe_lst' (pa_cons (pe_tup' (pa_cons pe_int (pa_cons (pv 2) pa_nil))) pa_nil)))
    (pss_cons (ps_for PassesOwn.never rfl (pi_tup (pe_tup' (pa_cons (pe_tup' (pa_cons pe_int (pa_cons (pe_tup' (pa_cons pe_int pa_nil)) pa_nil))) (pa_cons (pe_tup' (pa_cons pe_int (pa_cons (pv 2) pa_nil))) (pa_cons (pe_tup' (pa_cons pe_int (pa_cons (pe_tup' (pa_cons pe_int pa_nil)) pa_nil))) pa_nil))))) (pg_name (i := 4) sc_l_log.nd rfl (Or.inl rfl))
      (pss_one (ps_set (i := 3) sc_l_log.nd rfl (Or.inl rfl) (pe_op op_cat' (pe_op op_cat' (pv 3) (pe_op op_rep' (pe_lst' (pa_cons pe_non pa_nil)) (pe_callTy call_int1 (by rfl) T.int (by decide +kernel) (pa_cons (pe_cmpR op_gt (pe_cal c_l_draw hr (pa_cons (pv 0) (pa_cons pe_int pa_nil))) pe_int (nomark _)) pa_nil)))) (pe_lst' (pa_cons (pv 4) pa_nil))))))
    (pss_one (ps_ret (pe_tup' (pa_cons (pe_tup' (pa_cons pe_int (pa_cons pe_int (pa_cons pe_int (pa_cons (pe_cal c_l_draw hr (pa_cons (pv 0) (pa_cons (pv 1) pa_nil))) (pa_cons (pe_cal c_l_draw hr (pa_cons (pv 0) (pa_cons (pv 1) pa_nil))) pa_nil)))))) (pa_cons (pe_op op_add pe_int (pe_cal c_l_draw hr (pa_cons (pv 0) (pa_cons pe_int pa_nil)))) (pa_cons (pv 3) pa_nil))))))))), ?_⟩
  refine ⟨_, rfl, _, rfl, q, m, kinds, rfl, by omega, by omega, hP, by omega, fun d1 H1 d10 d11 g1 => ⟨_, rfl, _, rfl, q, m + 1, kinds, rfl, by omega, by omega, g1.pen, by omega, fun d2 H2 d20 d21 g2 => ⟨szr, fun nw H3 hn s3 h3 => ?_⟩⟩⟩
  refine ⟨_, rfl, szr, fun t H4 ht s4 h4 => ⟨szr, fun sl H5 hsl s5 h5 => ?_⟩⟩
  have g5 := (((g1.trans g2).same s3).same s4).same s5
  have nsl := (((g1.trans g2).same s3).same s4).pen.free hsl
  refine ⟨szr, fun a1 H6 _ s6 h6 => ⟨szr, fun t1 H7 _ s7 h7 => ⟨_, rfl, szr, fun t2 H8 _ s8 h8 => ⟨szr, fun a3 H9 _ s9 h9 => ⟨szr, fun t3 H10 _ s10 h10 => ⟨szr, fun tt H11 _ s11 h11 => ?_⟩⟩⟩⟩⟩⟩
  have S := s6.trans (s7.trans (s8.trans (s9.trans (s10.trans s11))))
  have g11 := g5.same S
  have nw11 : H11 nw = some (.tup (ivs [d1, d2])) := S _ _ (s5 _ _ (s4 _ _ h3))
  have its : Paired (StepV H11) [V.ref t1, V.ref t2, V.ref t3] [some (2, [1]), some (3, [d1, d2]), some (2, [0])] :=
    .cons ⟨t1, a1, rfl, s11 _ _ (s10 _ _ (s9 _ _ (s8 _ _ h7))), s11 _ _ (s10 _ _ (s9 _ _ (s8 _ _ (s7 _ _ h6))))⟩
      (.cons ⟨t2, nw, rfl, s11 _ _ (s10 _ _ (s9 _ _ h8)), nw11⟩ (.cons ⟨t3, a3, rfl, s11 _ _ h10, s11 _ _ (s10 _ _ h9)⟩ .nil))
  have iok : ∀ x ∈ ([some (2, [1]), some (3, [d1, d2]), some (2, [0])] : List Stp), OkS 5 x ∧ stl x ≤ 2 := by
    intro x hx
    simp only [List.mem_cons, List.not_mem_nil, or_false] at hx
    rcases hx with rfl | rfl | rfl
    · exact ⟨⟨by decide, by simp, by decide, fun z hz => by rw [List.mem_singleton.mp hz]; decide⟩, by decide⟩
    · refine ⟨⟨by decide, by simp, by show (3 : Int) + 2 ≤ 5; decide, fun z hz => ?_⟩, Nat.le_refl _⟩
      simp only [List.mem_cons, List.not_mem_nil, or_false] at hz
      rcases hz with rfl | rfl <;> omega
    · exact ⟨⟨by decide, by simp, by decide, fun z hz => by rw [List.mem_singleton.mp hz]; decide⟩, by decide⟩
  refine ⟨tt, rfl, ⟨_, SqT.of h11⟩, for_tup (K := K) (a := tt) (xs := [V.ref t1, V.ref t2, V.ref t3]) (fun i σ' H' => ∃ sl xs sts kv, σ' = [some (.ref q.p), some (.int kinds), some (.ref nw), some (.ref sl), kv] ∧ Go q (m + 2 + i) H H' ∧ Kp q.p H11 H' ∧ sl ≠ q.p ∧ H' sl = some (.lst xs) ∧ Paired (StepV H') xs sts ∧ sts.length ≤ 1 + 2 * i ∧ (∀ x ∈ sts, OkS 5 x) ∧ tot sts ≤ 2 + 2 * i) ?_ ?_ ?_ ?_⟩
  · refine ⟨sl, _, [some (0, [d1, d2])], none, rfl, g11, Kp.refl, nsl.1, S _ _ h5, .cons ⟨t, nw, rfl, S _ _ (s5 _ _ h4), nw11⟩ .nil, Nat.le_refl _, fun x hx => ?_, Nat.le_refl _⟩
    rw [List.mem_singleton.mp hx]
    refine ⟨by decide, by simp, by show (0 : Int) + 2 ≤ 5; decide, fun z hz => ?_⟩
    simp only [List.mem_cons, List.not_mem_nil, or_false] at hz
    rcases hz with rfl | rfl <;> omega
  · rintro i σ' H' hi ⟨sl, xs, sts, kv, rfl, gi, ki, _⟩
    exact SqT.of (ki.tup h11)
  · rintro i x σ' H' hx ⟨sl, xs, sts, kv, rfl, gi, ki, ns, h1', hst, l1, ok, l2⟩
    have i3 : i < 3 := (List.getElem?_eq_some_iff.mp hx).1
    obtain ⟨st, hs1, hs2⟩ := paired_get its hx
    obtain ⟨o1, o2⟩ := iok st (List.mem_of_getElem? hs1)
    have xl := paired_len hst
    refine ⟨_, rfl, szr, fun nl H1' hnl s1' h2' => ⟨_, rfl, q, _, 3, rfl, by decide, by decide, gi.pen.same s1', by omega, fun d H2' d0 d1' gd => ⟨_, _, rfl, rfl, .inr ⟨_, rfl, ?_⟩⟩⟩⟩
    obtain ⟨kk, ek, hk⟩ := one_or (c := decide (0 < d))
    rw [ek]
    have gg := (gi.same s1').trans gd
    have hnl' : nl ≠ q.p := (gi.pen.free hnl).1
    refine ⟨nl, kk, _, rfl, rfl, gd.kp.lst hnl' h2', by omega, by omega, sz (by show 1 * kk.toNat ≤ 100000; omega), fun r H3' hr3 s3' h3' => ?_⟩
    have rl := rep_len hk
    refine ⟨sl, r, xs, _, rfl, rfl, s3' _ _ (gd.kp.lst ns (s1' _ _ h1')), h3', sz (by omega), fun r2 H4' hr4 s4' h4' => ⟨_, rfl, szr, fun l5 H5' h5n s5' h5' => ?_⟩⟩
    have gg4 := ((gg.same s3').same s4').same s5'
    refine ⟨r2, l5, _, _, rfl, rfl, s5' _ _ h4', h5', sz (by rw [List.length_append]; show _ + 1 ≤ 100000; omega), fun r6 H6' h6n s6' h6' => ?_⟩
    obtain ⟨bs, b1, b2, b3, b4⟩ := rep_none hk (H := H6')
    have kk6 : Kp q.p H' H6' := (Kp.same s1').trans (gd.kp.trans (Kp.same (s3'.trans (s4'.trans (s5'.trans s6')))))
    refine ⟨r6, _, (sts ++ bs) ++ [st], _, rfl, (gg4.same s6').mono (by omega), ki.trans kk6, (gg4.pen.free h6n).1, h6', paired_app (paired_app (steps_kp kk6 hst) b1) (.cons ((hs2.kp ki).kp kk6) .nil), ?_, fun y hy => ?_, ?_⟩
    · rw [List.length_append, List.length_append]
      show sts.length + bs.length + 1 ≤ _
      omega
    · rcases List.mem_append.mp hy with hy | hy
      · rcases List.mem_append.mp hy with hy | hy
        · exact ok y hy
        · rw [b4 y hy]
          exact True.intro
      · rw [List.mem_singleton.mp hy]
        exact o1
    · rw [tot_app, tot_app, tot_one, b3]
      omega
  · rintro σ' H' ⟨sl, xs, sts, kv, rfl, gi, ki, ns, h1', hst, l1, ok, l2⟩
    have l1' : sts.length ≤ 7 := l1
    have l2' : tot sts ≤ 8 := l2
    have gi' : Go q (m + 5) H H' := gi
    refine ⟨_, rfl, _, rfl, q, m + 5, kinds, rfl, by omega, by omega, gi'.pen, by omega, fun e1 H1' e10 e11 ge1 => ⟨_, rfl, _, rfl, q, _, kinds, rfl, by omega, by omega, ge1.pen, by omega, fun e2 H2' e20 e21 ge2 => ⟨szr, fun ct H3' hct s3' h3' => ?_⟩⟩⟩
    refine ⟨_, rfl, q, _, 2, rfl, by decide, by decide, ge2.pen.same s3', by omega, fun d H4' d0 d1' gd => ⟨_, _, rfl, rfl, _, rfl, szr, fun r H5' hr5 s5' h5' => ?_⟩⟩
    have gg := (((gi'.trans (ge1.trans ge2)).same s3').trans gd).same s5'
    have kp : Kp q.p H' H5' := ge1.kp.trans (ge2.kp.trans ((Kp.same s3').trans (gd.kp.trans (Kp.same s5'))))
    refine k (.ref r) H5' ⟨[0, 0, 0, e1, e2], 1 + d, sts⟩ (gg.mono (by omega)) ⟨r, ct, sl, xs, rfl, h5', s5' _ _ (gd.kp.tup h3'), ns, kp.lst ns h1', steps_kp kp hst⟩ ?_ rfl
    refine ⟨by show 1 ≤ 5; decide, by show 5 ≤ 24; decide, fun z hz => ?_, by show 1 ≤ 1 + d; omega, by show 1 + d ≤ 24; omega, ok, by show sts.length ≤ 10; omega, by show tot sts ≤ 10; omega⟩
    simp only [List.mem_cons, List.not_mem_nil, or_false] at hz
    rcases hz with rfl | rfl | rfl | rfl | rfl <;> omega
theorem ok_copy {f : Addr} {fd : FuncData} (F : Fun K "_law_copy" "_law_copy" s_l_copy f fd) (T : Txt mg) (c_l_draw : Cal P w K mg base 2 "_law_draw" ["_law_pen_here", "_law_under"] sp_draw) :
    FnOk P w K mg base CX0 3 f fd ["_law_pen_here", "_law_kinds"] sp_copy := by
  refine F.ok sc_l_copy (fun vs H Q E h => ?_) (fun cdv A outer s H vs Q E hr h => ?_)
  · obtain ⟨_, _, _, rfl, _⟩ := h
    rfl
  obtain ⟨q, m, kinds, rfl, hP, hm, k1, k2, k⟩ := h
  refine ⟨_, (pss_cons (ps_set (i := 2) sc_l_copy.nd rfl (Or.inl rfl) (pe_tup' (pa_cons (pe_cal c_l_draw hr (pa_cons (pv 0) (pa_cons (pv 1) pa_nil))) (pa_cons (pe_cal c_l_draw hr (pa_cons (pv 0) (pa_cons (pv 1) pa_nil))) pa_nil))))
    (pss_cons (ps_set (i := 3) sc_l_copy.nd rfl (Or.inl rfl) (pe_op op_cat' (pe_op op_cat' (pe_lst' (pa_cons (pe_tup' (pa_cons pe_int (pa_cons (pv 2) pa_nil))) pa_nil)) (pe_op op_rep' (pe_lst' (pa_cons pe_non pa_nil)) (pe_callTy call_int1 (by rfl) T.int (by decide +kernel) (pa_cons (pe_cmpR op_gt (pe_cal c_l_draw hr (pa_cons (pv 0) (pa_cons pe_int pa_nil))) pe_int (nomark _)) pa_nil)))) (pe_lst' (pa_cons (pe_tup' (pa_cons pe_int (pa_cons (pe_tup' (pa_cons pe_int pa_nil)) pa_nil))) pa_nil))))
    (pss_one (ps_ret (pe_tup' (pa_cons (pe_tup' (pa_cons (pe_cal c_l_draw hr (pa_cons (pv 0) (pa_cons (pv 1) pa_nil))) (pa_cons (pe_cal c_l_draw hr (pa_cons (pv 0) (pa_cons (pv 1) pa_nil))) (pa_cons pe_int (pa_cons pe_int (pa_cons pe_int pa_nil)))))) (pa_cons (pe_op op_add pe_int (pe_cal c_l_draw hr (pa_cons (pv 0) (pa_cons pe_int pa_nil)))) (pa_cons (pv 3) pa_nil)))))))), ?_⟩
  refine ⟨_, rfl, _, rfl, q, m, kinds, rfl, by omega, by omega, hP, by omega, fun d1 H1 d10 d11 g1 => ⟨_, rfl, _, rfl, q, m + 1, kinds, rfl, by omega, by omega, g1.pen, by omega, fun d2 H2 d20 d21 g2 => ⟨szr, fun nw H3 hn s3 h3 => ?_⟩⟩⟩
  refine ⟨_, rfl, szr, fun t H4 ht s4 h4 => ⟨szr, fun sl H5 hsl s5 h5 => ⟨szr, fun nl H6 hnl s6 h6 => ?_⟩⟩⟩
  have g6 := ((((g1.trans g2).same s3).same s4).same s5).same s6
  have nsl := (((g1.trans g2).same s3).same s4).pen.free hsl
  have nnl := ((((g1.trans g2).same s3).same s4).same s5).pen.free hnl
  refine ⟨_, rfl, q, _, 3, rfl, by decide, by decide, g6.pen, by omega, fun d H7 d0 d1' gd => ⟨_, _, rfl, rfl, .inr ⟨_, rfl, ?_⟩⟩⟩
  obtain ⟨kk, ek, hk⟩ := one_or (c := decide (0 < d))
  rw [ek]
  refine ⟨nl, kk, _, rfl, rfl, gd.kp.lst nnl.1 h6, by omega, by omega, sz (by show 1 * kk.toNat ≤ 100000; omega), fun r H8 hr8 s8 h8 => ?_⟩
  have rl := rep_len hk
  refine ⟨sl, r, _, _, rfl, rfl, s8 _ _ (gd.kp.lst nsl.1 (s6 _ _ h5)), h8, sz (by show 1 + _ ≤ 100000; omega), fun r2 H9 hr9 s9 h9 => ⟨szr, fun a3 H10 ha3 s10 h10 => ⟨szr, fun t3 H11 ht3 s11 h11 => ⟨szr, fun l5 H12 hl5 s12 h12 => ?_⟩⟩⟩⟩
  have S := s9.trans (s10.trans (s11.trans s12))
  refine ⟨r2, l5, _, _, rfl, rfl, s12 _ _ (s11 _ _ (s10 _ _ h9)), h12, sz (by rw [List.length_append]; show (1 + _) + 1 ≤ 100000; omega), fun r6 H13 h13n s13 h13 => ?_⟩
  obtain ⟨bs, b1, b2, b3, b4⟩ := rep_none hk (H := H13)
  have kp6 : Kp q.p H6 H13 := gd.kp.trans (Kp.same (s8.trans (S.trans s13)))
  have g13 := (((((((g6.trans gd).same s8).same s9).same s10).same s11).same s12).same s13)
  have n6 := (((((((g6.trans gd).same s8).same s9).same s10).same s11).same s12)).pen.free h13n
  have nw13 : H13 nw = some (.tup (ivs [d1, d2])) := kp6.tup (s6 _ _ (s5 _ _ (s4 _ _ h3)))
  have hst : Paired (StepV H13) (([V.ref t] ++ (List.replicate kk.toNat [V.non]).flatten) ++ [V.ref t3]) (([some (2, [d1, d2])] ++ bs) ++ [some (4, [1])]) :=
    paired_app (paired_app (.cons ⟨t, nw, rfl, kp6.tup (s6 _ _ (s5 _ _ h4)), nw13⟩ .nil) b1) (.cons ⟨t3, a3, rfl, s13 _ _ (s12 _ _ h11), s13 _ _ (s12 _ _ (s11 _ _ h10))⟩ .nil)
  -- the plan
  refine ⟨_, rfl, _, rfl, q, _, kinds, rfl, by omega, by omega, g13.pen, by omega, fun e1 H1' e10 e11 ge1 => ⟨_, rfl, _, rfl, q, _, kinds, rfl, by omega, by omega, ge1.pen, by omega, fun e2 H2' e20 e21 ge2 => ⟨szr, fun ct H3' hct s3' h3' => ?_⟩⟩⟩
  refine ⟨_, rfl, q, _, 2, rfl, by decide, by decide, ge2.pen.same s3', by omega, fun d' H4' d0' d1'' gd' => ⟨_, _, rfl, rfl, _, rfl, szr, fun r' H5' hr5 s5' h5' => ?_⟩⟩
  have gg := (((g13.trans (ge1.trans ge2)).same s3').trans gd').same s5'
  have kp : Kp q.p H13 H5' := ge1.kp.trans (ge2.kp.trans ((Kp.same s3').trans (gd'.kp.trans (Kp.same s5'))))
  refine k (.ref r') H5' ⟨[e1, e2, 0, 0, 0], 1 + d', ([some (2, [d1, d2])] ++ bs) ++ [some (4, [1])]⟩ (gg.mono (by omega)) ⟨r', ct, r6, _, rfl, h5', s5' _ _ (gd'.kp.tup h3'), n6.1, kp.lst n6.1 h13, steps_kp kp hst⟩ ?_ rfl (by
    show tot (([some (2, [d1, d2])] ++ bs) ++ [some (4, [1])] : List Stp) ≤ 3
    rw [tot_app, tot_app, tot_one, tot_one, b3]
    exact Nat.le_refl 3)
  refine ⟨by show 1 ≤ 5; decide, by show 5 ≤ 24; decide, fun z hz => ?_, by show 1 ≤ 1 + d'; omega, by show 1 + d' ≤ 24; omega, fun x hx => ?_, ?_, ?_⟩
  · simp only [List.mem_cons, List.not_mem_nil, or_false] at hz
    rcases hz with rfl | rfl | rfl | rfl | rfl <;> omega
  · rcases List.mem_append.mp hx with hx | hx
    · rcases List.mem_append.mp hx with hx | hx
      · rw [List.mem_singleton.mp hx]
        refine ⟨by decide, by simp, by show (2 : Int) + 2 ≤ 5; decide, fun z hz => ?_⟩
        simp only [List.mem_cons, List.not_mem_nil, or_false] at hz
        rcases hz with rfl | rfl <;> omega
      · rw [b4 x hx]
        exact True.intro
    · rw [List.mem_singleton.mp hx]
      exact ⟨by decide, by simp, by show (4 : Int) + 1 ≤ 5; decide, fun z hz => by rw [List.mem_singleton.mp hz]; decide⟩
  · show (([some (2, [d1, d2])] ++ bs) ++ [some (4, [1])] : List Stp).length ≤ 10
    rw [List.length_append, List.length_append]
    show 1 + bs.length + 1 ≤ 10
    omega
  · show tot (([some (2, [d1, d2])] ++ bs) ++ [some (4, [1])] : List Stp) ≤ 10
    rw [tot_app, tot_app, tot_one, tot_one, b3]
    show 2 + 0 + 1 ≤ 10
    decide
theorem at3 {a b c : Int} {d : Int} (h0 : 0 ≤ d) (h1 : d < 3) : ∃ v, atI [V.int a, .int b, .int c] d = some (.int v) ∧ (v = a ∨ v = b ∨ v = c) := by
  have : d = 0 ∨ d = 1 ∨ d = 2 := by omega
  rcases this with rfl | rfl | rfl
  · exact ⟨a, rfl, .inl rfl⟩
  · exact ⟨b, rfl, .inr (.inl rfl)⟩
  · exact ⟨c, rfl, .inr (.inr rfl)⟩
theorem ok_plan {f : Addr} {fd : FuncData} (F : Fun K "_law_plan" "_law_plan" s_l_plan f fd) (T : Txt mg) (c_l_draw : Cal P w K mg base 2 "_law_draw" ["_law_pen_here", "_law_under"] sp_draw)
    (c_l_log : Cal P w K mg base 3 "_law_log" ["_law_pen_here", "_law_kinds"] sp_log) (c_l_copy : Cal P w K mg base 3 "_law_copy" ["_law_pen_here", "_law_kinds"] sp_copy)
    (c_l_drawn : Cal P w K mg base 4 "_law_drawn" ["_law_pen_here", "_law_many", "_law_most", "_law_kinds"] sp_drawn) :
    FnOk P w K mg base CX0 5 f fd ["_law_pen_here", "_law_most"] sp_plan := by
  refine F.ok sc_l_plan (fun vs H Q E h => ?_) (fun cdv A outer s H vs Q E hr h => ?_)
  · obtain ⟨_, _, _, rfl, _⟩ := h
    rfl
  obtain ⟨q, m, most, rfl, hP, hm, o1, o2, k⟩ := h
  refine ⟨_, (pss_cons (ps_set (i := 2) sc_l_plan.nd rfl (Or.inl rfl) (pe_cal c_l_draw hr (pa_cons (pv 0) (pa_cons pe_int pa_nil))))
    (pss_cons (ps_cut (ps_if (PW.pt (pw_and (pt_cmpR op_eq (pv 2) pe_int (nomark _)) (pw_and1 (pt_cmpR op_gt (pv 1) pe_int (nomark _)))))
      (pss_one (ps_ret (pe_cal c_l_log hr (pa_cons (pv 0) (pa_cons pe_int pa_nil)))))
      pss_nil))
    (pss_cons (ps_cut (ps_if (PW.pt (pw_and (pt_cmpR op_eq (pv 2) pe_int (nomark _)) (pw_and1 (pt_cmpR op_gt (pv 1) pe_int (nomark _)))))
      (pss_one (ps_ret (pe_cal c_l_copy hr (pa_cons (pv 0) (pa_cons pe_int pa_nil)))))
      pss_nil))
    (pss_one (ps_ret (pe_cal c_l_drawn hr (pa_cons (pv 0) (pa_cons (pe_op op_add pe_int (pe_cal c_l_draw hr (pa_cons (pv 0) (pa_cons pe_int pa_nil)))) (pa_cons (pv 1) (pa_cons (pe_ix ix_seq' (pe_lst' (pa_cons pe_int (pa_cons pe_int (pa_cons pe_int pa_nil)))) (pe_cal c_l_draw hr (pa_cons (pv 0) (pa_cons pe_int pa_nil))) (fun _ _ => rfl)) pa_nil)))))))))), ?_⟩
  refine ⟨_, rfl, q, m, 6, rfl, by decide, by decide, hP, by omega, fun d H1 d0 d1 g1 => ?_⟩
  have fall : ∀ v H' pl, Go q (m + 21) H H' → PlanV q.p H' v pl → Good 10 10 pl → pl.cs.length = 5 → (most = 5 → (allP pl.w 0 pl.sts).length ≤ 5) → Q v H' := fun v H' pl g hv gd cl x => k v H' pl (g.mono (by omega)) hv (gd.mono (by omega) (by omega)) (by omega) x
  refine ⟨fun σ' H' => σ' = [some (.ref q.p), some (.int most), some (.int d)] ∧ H1 = H', ?_, ?_⟩
  · refine ⟨_, rfl, rfl, _, rfl, ite2 (fun _ => ?_) (fun _ => iteF ⟨rfl, rfl⟩)⟩
    refine ⟨_, rfl, _, _, rfl, rfl, _, rfl, ite2 (fun m5 => ?_) (fun _ => ⟨rfl, rfl⟩)⟩
    exact ⟨_, rfl, q, m + 1, 3, rfl, g1.pen, by omega, by decide, by decide, fun v H' pl g hv gd cl => fall v H' pl ((g1.trans g).mono (by omega)) hv gd cl fun e => (by have := of_decide_eq_true m5; omega)⟩
  rintro _ _ ⟨rfl, rfl⟩
  refine ⟨fun σ' H' => σ' = [some (.ref q.p), some (.int most), some (.int d)] ∧ H1 = H', ?_, ?_⟩
  · refine ⟨_, rfl, rfl, _, rfl, ite2 (fun _ => ?_) (fun _ => iteF ⟨rfl, rfl⟩)⟩
    refine ⟨_, rfl, _, _, rfl, rfl, _, rfl, ite2 (fun _ => ?_) (fun _ => ⟨rfl, rfl⟩)⟩
    exact ⟨_, rfl, q, m + 1, 3, rfl, g1.pen, by omega, by decide, by decide, fun v H' pl g hv gd cl t3 => fall v H' pl ((g1.trans g).mono (by omega)) hv gd cl fun _ => Nat.le_trans (allP_tot gd.st) (by omega)⟩
  rintro _ _ ⟨rfl, rfl⟩
  refine ⟨_, rfl, _, rfl, q, m + 1, 4, rfl, by decide, by decide, g1.pen, by omega, fun c H2 c0 c1 g2 => ⟨_, _, rfl, rfl, _, rfl, szr, fun l H3 hl s3 h3 => ?_⟩⟩
  refine ⟨_, rfl, q, m + 2, 3, rfl, by decide, by decide, (g1.trans g2).pen.same s3, by omega, fun e H4 e0 e1 g4 => ?_⟩
  obtain ⟨v, hv, hv2⟩ := at3 (a := 2) (b := 3) (c := 8) e0 e1
  have nl := (g1.trans g2).pen.free hl
  refine ⟨l, _, _, _, rfl, rfl, .inl (g4.kp.lst nl.1 h3), hv, ?_⟩
  have g5 := (((g1.trans g2).same s3).trans g4)
  refine ⟨q, m + 3, 1 + c, most, v, rfl, g5.pen, by omega, by omega, by omega, by omega, o2, by omega, by omega, fun v H' pl g hv gd cl ab => k v H' pl ((g5.trans g).mono (by omega)) hv (gd.mono (by omega) (by omega)) (by omega) fun e => (by omega)⟩
end
end Af

set_option Elab.async false
set_option linter.all false
set_option maxRecDepth 100000
namespace Af
open PySem L2
abbrev s_Plan_base : Stmt := inClass (top 30) 1
abbrev N_Plan_base : List Str := ["self"]
theorem sc_Plan_base : FnScope N_Plan_base ["self"] (defScope s_Plan_base) := ⟨rfl, rfl, rfl, by decide +kernel, rfl, by decide +kernel, by decide +kernel⟩

abbrev s_Plan_width : Stmt := inClass (top 30) 2
abbrev N_Plan_width : List Str := ["self"]
theorem sc_Plan_width : FnScope N_Plan_width ["self"] (defScope s_Plan_width) := ⟨rfl, rfl, rfl, by decide +kernel, rfl, by decide +kernel, by decide +kernel⟩

abbrev s_Plan_steps : Stmt := inClass (top 30) 3
abbrev N_Plan_steps : List Str := ["self"]
theorem sc_Plan_steps : FnScope N_Plan_steps ["self"] (defScope s_Plan_steps) := ⟨rfl, rfl, rfl, by decide +kernel, rfl, by decide +kernel, by decide +kernel⟩

abbrev s_Plan_pieces : Stmt := inClass (top 30) 4
abbrev N_Plan_pieces : List Str := ["self"]
theorem sc_Plan_pieces : FnScope N_Plan_pieces ["self"] (defScope s_Plan_pieces) := ⟨rfl, rfl, rfl, by decide +kernel, rfl, by decide +kernel, by decide +kernel⟩

abbrev s_Plan_epochs : Stmt := inClass (top 30) 5
abbrev N_Plan_epochs : List Str := ["self"]
theorem sc_Plan_epochs : FnScope N_Plan_epochs ["self"] (defScope s_Plan_epochs) := ⟨rfl, rfl, rfl, by decide +kernel, rfl, by decide +kernel, by decide +kernel⟩

/-- a plan that was made: its six fields and its lists -/
structure PlanX (C x ca sl ql el : Addr) (H : Hp) (pl : Pl) (xs ys : List V) : Prop where
  ins : ∃ dx fs, H x = some (.ins C dx fs) ∧ fs.lookup ("_base" : Str) = some (.ref ca) ∧ fs.lookup ("_width" : Str) = some (.int pl.w) ∧ fs.lookup ("_steps" : Str) = some (.ref sl) ∧
    fs.lookup ("_pieces" : Str) = some (.ref ql) ∧ fs.lookup ("_piece_epochs" : Str) = some (.ref el) ∧ fs.lookup ("_epochs" : Str) = some (.int ((bars pl.sts : Nat) + 1)) ∧ fs.lookup ("epoch_of" : Str) = none
  steps : H sl = some (.lst xs)
  pieces : H ql = some (.lst ys)
  eps : H el = some (.lst (ivs (pieceE pl.sts (allP pl.w 0 pl.sts))))
def sp_p_base (C : Addr) : Sp := fun vs H Q _ => ∃ (x ca sl ql el : Addr) (pl : Pl) (xs ys : List V), vs = [.ref x] ∧ PlanX C x ca sl ql el H pl xs ys ∧ Q (.ref ca) H
def sp_p_width (C : Addr) : Sp := fun vs H Q _ => ∃ (x ca sl ql el : Addr) (pl : Pl) (xs ys : List V), vs = [.ref x] ∧ PlanX C x ca sl ql el H pl xs ys ∧ Q (.int pl.w) H
def sp_p_steps (C : Addr) : Sp := fun vs H Q _ => ∃ (x ca sl ql el : Addr) (pl : Pl) (xs ys : List V), vs = [.ref x] ∧ PlanX C x ca sl ql el H pl xs ys ∧ ∀ l H', Same H H' → H l = none → H' l = some (.lst xs) → Q (.ref l) H'
def sp_p_pieces (C : Addr) : Sp := fun vs H Q _ => ∃ (x ca sl ql el : Addr) (pl : Pl) (xs ys : List V), vs = [.ref x] ∧ PlanX C x ca sl ql el H pl xs ys ∧ ∀ l H', Same H H' → H l = none → H' l = some (.lst ys) → Q (.ref l) H'
def sp_p_epochs (C : Addr) : Sp := fun vs H Q _ => ∃ (x ca sl ql el : Addr) (pl : Pl) (xs ys : List V), vs = [.ref x] ∧ PlanX C x ca sl ql el H pl xs ys ∧ Q (.int ((bars pl.sts : Nat) + 1)) H
section
variable {P : Program} {w : World} {K : PySem.W.Frag} {mg : Str → Option Value} {base : Heap}
theorem ok_p_base {f C : Addr} {fd : FuncData} (F : Fun K "base" "Plan.base" s_Plan_base f fd) (TC : PlanC K mg C) : FnOk P w K mg base CX0 1 f fd ["self"] (sp_p_base C) := by
  refine F.ok sc_Plan_base (fun vs H Q E h => ?_) (fun cdv A outer s H vs Q E hr h => ?_)
  · obtain ⟨_, _, _, _, _, _, _, _, rfl, _⟩ := h
    rfl
  obtain ⟨x, ca, sl, ql, el, pl, xs, ys, rfl, ⟨⟨dx, fs, hx, hB, hW, hS, hP, hE, hN, hM⟩, h1, h2, h3⟩, k⟩ := h
  refine ⟨_, (pss_one (ps_ret (pe_fld (pv 0) rfl))), ?_⟩
  exact ⟨_, rfl, x, C, dx, fs, _, rfl, hx, TC.cl, TC.nB, hB, k⟩
theorem ok_p_width {f C : Addr} {fd : FuncData} (F : Fun K "width" "Plan.width" s_Plan_width f fd) (TC : PlanC K mg C) : FnOk P w K mg base CX0 1 f fd ["self"] (sp_p_width C) := by
  refine F.ok sc_Plan_width (fun vs H Q E h => ?_) (fun cdv A outer s H vs Q E hr h => ?_)
  · obtain ⟨_, _, _, _, _, _, _, _, rfl, _⟩ := h
    rfl
  obtain ⟨x, ca, sl, ql, el, pl, xs, ys, rfl, ⟨⟨dx, fs, hx, hB, hW, hS, hP, hE, hN, hM⟩, h1, h2, h3⟩, k⟩ := h
  refine ⟨_, (pss_one (ps_ret (pe_fld (pv 0) rfl))), ?_⟩
  exact ⟨_, rfl, x, C, dx, fs, _, rfl, hx, TC.cl, TC.nW, hW, k⟩
theorem ok_p_steps {f C : Addr} {fd : FuncData} (F : Fun K "steps" "Plan.steps" s_Plan_steps f fd) (T : Txt mg) (TC : PlanC K mg C) : FnOk P w K mg base CX0 1 f fd ["self"] (sp_p_steps C) := by
  refine F.ok sc_Plan_steps (fun vs H Q E h => ?_) (fun cdv A outer s H vs Q E hr h => ?_)
  · obtain ⟨_, _, _, _, _, _, _, _, rfl, _⟩ := h
    rfl
  obtain ⟨x, ca, sl, ql, el, pl, xs, ys, rfl, ⟨⟨dx, fs, hx, hB, hW, hS, hP, hE, hN, hM⟩, h1, h2, h3⟩, k⟩ := h
  refine ⟨_, (pss_one (ps_ret (pe_callTy call_list' (by rfl) T.list (by decide +kernel) (pa_cons (pe_fld (pv 0) rfl) pa_nil)))), ?_⟩
  refine ⟨_, rfl, x, C, dx, fs, _, rfl, hx, TC.cl, TC.nS, hS, ?_⟩
  exact ⟨sl, _, rfl, .inl h1, fun c H2 hc s3 h3 => k c H2 s3 hc h3⟩
theorem ok_p_pieces {f C : Addr} {fd : FuncData} (F : Fun K "pieces" "Plan.pieces" s_Plan_pieces f fd) (T : Txt mg) (TC : PlanC K mg C) : FnOk P w K mg base CX0 1 f fd ["self"] (sp_p_pieces C) := by
  refine F.ok sc_Plan_pieces (fun vs H Q E h => ?_) (fun cdv A outer s H vs Q E hr h => ?_)
  · obtain ⟨_, _, _, _, _, _, _, _, rfl, _⟩ := h
    rfl
  obtain ⟨x, ca, sl, ql, el, pl, xs, ys, rfl, ⟨⟨dx, fs, hx, hB, hW, hS, hP, hE, hN, hM⟩, h1, h2, h3⟩, k⟩ := h
  refine ⟨_, (pss_one (ps_ret (pe_callTy call_list' (by rfl) T.list (by decide +kernel) (pa_cons (pe_fld (pv 0) rfl) pa_nil)))), ?_⟩
  refine ⟨_, rfl, x, C, dx, fs, _, rfl, hx, TC.cl, TC.nP, hP, ?_⟩
  exact ⟨ql, _, rfl, .inl h2, fun c H2 hc s3 h3 => k c H2 s3 hc h3⟩
theorem ok_p_epochs {f C : Addr} {fd : FuncData} (F : Fun K "epochs" "Plan.epochs" s_Plan_epochs f fd) (TC : PlanC K mg C) : FnOk P w K mg base CX0 1 f fd ["self"] (sp_p_epochs C) := by
  refine F.ok sc_Plan_epochs (fun vs H Q E h => ?_) (fun cdv A outer s H vs Q E hr h => ?_)
  · obtain ⟨_, _, _, _, _, _, _, _, rfl, _⟩ := h
    rfl
  obtain ⟨x, ca, sl, ql, el, pl, xs, ys, rfl, ⟨⟨dx, fs, hx, hB, hW, hS, hP, hE, hN, hM⟩, h1, h2, h3⟩, k⟩ := h
  refine ⟨_, (pss_one (ps_ret (pe_fld (pv 0) rfl))), ?_⟩
  exact ⟨_, rfl, x, C, dx, fs, _, rfl, hx, TC.cl, TC.nN, hN, k⟩
end
end Af

set_option Elab.async false
set_option linter.all false
set_option maxRecDepth 100000
namespace Af
open PySem PySem.Spec PySem.Calls PyProof.Rows PySem.SeqAt L2
open AutoSeq1 (wpAny_loadPart')
/-! a tuple times 0, 1, or more -/
theorem mul_one (l : Addr) (items : Array Value) (n : Nat) (dd : Option Addr) (sl : Array (Option Value)) (u : Tok) :
    Meets (Builtin.«tuple.__mul__» ⟨[.ref l, .int 1 u], []⟩) (fun _ R s => s.heap.get? l = some { cls := .type "tuple", dict := dd, data := .seq items n, slots := sl } ∧ R (.ok (.ret (Value.ref l))) s) :=
  .of_wp fun prog w A R s h => by
    obtain ⟨hp, g, d, tk, os⟩ := s
    obtain ⟨hl, h⟩ := h
    have f1 := AutoSeq1.idx_int
    wp_walk using wpAny_loadPart' hl
    exact ⟨_, rfl, h⟩
theorem mul_zero (l : Addr) (items : Array Value) (n : Nat) (dd : Option Addr) (sl : Array (Option Value)) (u : Tok) (hi : items.isEmpty = false) :
    Meets (Builtin.«tuple.__mul__» ⟨[.ref l, .int 0 u], []⟩) (fun _ R s => s.heap.get? l = some { cls := .type "tuple", dict := dd, data := .seq items n, slots := sl } ∧
      R (.ok (.ret (Value.ref s.heap.objs.size))) { s with heap := s.heap.push { cls := Value.type "tuple", data := Data.seq #[] }, toks := s.toks }) :=
  .of_wp fun prog w A R s h => by
    obtain ⟨hp, g, d, tk, os⟩ := s
    obtain ⟨hl, h⟩ := h
    have f1 := AutoSeq1.idx_int
    wp_walk using wpAny_loadPart' hl
    exact ⟨_, rfl, h⟩
def rRepT' : R2 := fun x y H Q => ∃ l k xs, x = .ref l ∧ y = .int k ∧ H l = some (.tup xs) ∧ xs ≠ [] ∧ 0 ≤ k ∧ k ≤ 1000 ∧ xs.length ≤ 1000 ∧ NewT (List.replicate k.toNat xs).flatten H Q
theorem op_repT' {X : Cx} : OpR X (binaryOp .Mult) rRepT' := by
  intro pins s σ H x y v u Q I rx ry h
  obtain ⟨l, k, xs, rfl, rfl, hT, ne, h1, h2, hz, q⟩ := h
  by_cases two : 2 ≤ k
  · exact op_repT pins s σ H _ _ v u Q I rx ry ⟨l, k, xs, rfl, rfl, SqT.of hT, ne, two, h2, hz, fun p hp => q p _ (same_new hp) upd_same⟩
  cases (show v = Value.ref l from rx)
  obtain ⟨t, rfl⟩ := (show ∃ t, u = Value.int k t from ry)
  obtain ⟨its, r, ⟨⟨cls, dd, data, sl⟩, ho, hc, n, hd⟩, hs⟩ := I.tuple (SqT.of hT)
  simp only at hc hd
  subst hc hd
  have many : its.length = xs.length := r.length.symm
  have some_ : its.toArray.isEmpty = false := by
    cases its with
    | nil => exact absurd (List.eq_nil_of_length_eq_zero many.symm) ne
    | cons a b => rfl
  have go : ∀ {R : Value → Shared → Prop} {E : Value → Shared → Prop}, wpAny (model X.prog X.w) X.A.in1 (call (.builtin "tuple.__mul__") [.ref l, .int k t]) R E s → True := fun _ => trivial
  rcases (show k = 0 ∨ k = 1 by omega) with rfl | rfl
  · refine wpAny_binaryOp_repeat_ref (T := "tuple") (U := "int") (by decide) ⟨_, ho, rfl⟩ (fun s' => typeIs_int s' 0 t) noFill_tuple_mul F.fills_int_mul F.slot_int_rmul repeat_tuple F.slot_int_index.lookup
      (call_meets F.slot_int_rmul (typeIs_int s 0 t) F.entry_int_rmul (F.args_int_rmul_2 _ _) (int_rmul_tuple 0 t l its.toArray n dd sl) ⟨ho, rfl, ⟨_, ho, rfl⟩, call_meets F.slot_tuple_mul ⟨_, ho, rfl⟩ F.entry_tuple_mul (F.args_tuple_mul_2 _ _) (mul_zero l its.toArray n dd sl t some_) ⟨ho, ?_⟩⟩)
    exact ⟨.ref s.heap.objs.size, _, I.laid (t' := s.toks) (o := .tup []) (fun b ob y => Heap.get?_push_of_some _ y) (Nat.le_refl _) ⟨Nat.zero_le _, [], .nil, PyProof.Rows.IsTup.new _ _⟩, rfl, q _ _ (same_new (I.hok.fresh (Nat.le_refl _))) upd_same⟩
  · refine wpAny_binaryOp_repeat_ref (T := "tuple") (U := "int") (by decide) ⟨_, ho, rfl⟩ (fun s' => typeIs_int s' 1 t) noFill_tuple_mul F.fills_int_mul F.slot_int_rmul repeat_tuple F.slot_int_index.lookup
      (call_meets F.slot_int_rmul (typeIs_int s 1 t) F.entry_int_rmul (F.args_int_rmul_2 _ _) (int_rmul_tuple 1 t l its.toArray n dd sl) ⟨ho, rfl, ⟨_, ho, rfl⟩, call_meets F.slot_tuple_mul ⟨_, ho, rfl⟩ F.entry_tuple_mul (F.args_tuple_mul_2 _ _) (mul_one l its.toArray n dd sl t) ⟨ho, ?_⟩⟩)
    refine ⟨.ref l, H, I, rfl, q l H (Same.refl H) ?_⟩
    rw [hT]
    show some (HO.tup xs) = some (HO.tup (List.replicate 1 xs).flatten)
    simp
end Af

set_option Elab.async false
set_option linter.all false
set_option maxRecDepth 100000
namespace Af
open PySem PySem.Spec PyProof.Rows L2
/-! data whose text is not long -/
/-- its text has at most b signs, it can be shown, it nests at most n deep -/
structure Bd (b n : Nat) (d : PyData) : Prop where
  tx : d.shown.length ≤ b
  sh : d.showable = true
  dp : d.depth ≤ n
theorem Bd.mono {b n b' n' : Nat} {d : PyData} (h : Bd b n d) (h1 : b ≤ b') (h2 : n ≤ n') : Bd b' n' d := ⟨Nat.le_trans h.tx h1, h.sh, Nat.le_trans h.dp h2⟩
theorem Bd.flat {d : PyData} (h : flatD d = true) : Bd 45 1 d := by
  obtain ⟨h1, h2, h3⟩ := flat_len h
  exact ⟨h1, h2, h3⟩
theorem Bd.lst {b n k : Nat} {ds : List PyData} (h : ∀ d ∈ ds, Bd b n d) (hl : ds.length ≤ k) : Bd (k * (b + 2) + 3) (n + 1) (.list ds) := by
  obtain ⟨t, _⟩ := texts_le fun d hd => (h d hd).tx
  have e : ds.length * (b + 2) ≤ k * (b + 2) := Nat.mul_le_mul_right _ hl
  have e2 : ds.length * (b + 2) = b * ds.length + 2 * ds.length := by rw [Nat.mul_add, Nat.mul_comm ds.length b, Nat.mul_comm ds.length 2]
  refine ⟨?_, ?_, ?_⟩
  · simp only [PyData.shown]
    omega
  · simp only [PyData.showable]
    exact showAll_of fun d hd => (h d hd).sh
  · simp only [PyData.depth]
    have := depthAll_of fun d hd => (h d hd).dp
    omega
theorem Bd.tup {b n k : Nat} {ds : List PyData} (h : ∀ d ∈ ds, Bd b n d) (hl : ds.length ≤ k) : Bd (k * (b + 2) + 3) (n + 1) (.tuple ds) := by
  obtain ⟨_, t⟩ := texts_le fun d hd => (h d hd).tx
  have e : ds.length * (b + 2) ≤ k * (b + 2) := Nat.mul_le_mul_right _ hl
  have e2 : ds.length * (b + 2) = b * ds.length + 2 * ds.length := by rw [Nat.mul_add, Nat.mul_comm ds.length b, Nat.mul_comm ds.length 2]
  refine ⟨?_, ?_, ?_⟩
  · simp only [PyData.shown]
    omega
  · simp only [PyData.showable]
    exact showAll_of fun d hd => (h d hd).sh
  · simp only [PyData.depth]
    have := depthAll_of fun d hd => (h d hd).dp
    omega
theorem mem_shown {ds : List PyData} {d : PyData} (h : d ∈ ds) : d.shown ∈ PyData.shownAll ds := by
  induction ds with
  | nil => simp at h
  | cons a r ih =>
    simp only [PyData.shownAll]
    rcases List.mem_cons.mp h with rfl | h
    · exact List.mem_cons_self
    · exact List.mem_cons_of_mem _ (ih h)
theorem piled_ge : ∀ ts : List Str, 2 * ts.length ≤ piled ts
  | [] => Nat.zero_le _
  | t :: ts => by
    have := piled_ge ts
    simp only [piled, List.map_cons, List.sum_cons, List.length_cons] at *
    omega
theorem th_text {K : PySem.W.Frag} {H : Hp} : ∀ {n : Nat} {x : V} {d : PyData}, Dq K H x d → d.shown.length ≤ 200000 → Th K H n x
  | 0, _, _, h, _ => dq_ty h
  | n + 1, x, d, h, sz => by
    refine ⟨dq_ty h, fun a xs e z => ?_⟩
    subst e
    have key : ∀ ds, DqAll K H xs ds → (∀ y ∈ ds, y.shown.length ≤ 200000) → 2 * ds.length ≤ 200000 → xs.length ≤ 100000 ∧ ∀ y ∈ xs, Th K H n y := fun ds t q l => by
      refine ⟨by rw [t.len]; omega, fun y hy => ?_⟩
      obtain ⟨d', m1, m2⟩ := t.mem hy
      exact th_text m2 (q d' m1)
    cases h with
    | @lst _ ys ds e t =>
      have p := piled_le_listText (PyData.shownAll ds)
      have g := piled_ge (PyData.shownAll ds)
      rw [shownAll_len] at g
      simp only [PyData.shown] at sz
      rcases z with z | z
      · rw [e] at z; cases z
      · rw [e] at z; cases z; exact key ds t (fun y hy => Nat.le_trans (listText_mem_le (mem_shown hy)) sz) (by omega)
    | @tup _ ys ds e t =>
      have p := piled_le_tupleText (PyData.shownAll ds)
      have g := piled_ge (PyData.shownAll ds)
      rw [shownAll_len] at g
      simp only [PyData.shown] at sz
      rcases z with z | z
      · rw [e] at z; cases z; exact key ds t (fun y hy => Nat.le_trans (tupleText_mem_le (mem_shown hy)) sz) (by omega)
      · rw [e] at z; cases z
    | dic e => rcases z with z | z <;> (rw [e] at z; cases z)
def few : PyData → Prop
  | .list l => l.length ≤ 100
  | _ => True
end Af

set_option Elab.async false
set_option linter.all false
set_option maxRecDepth 100000
namespace Af
open PySem PySem.Spec PyProof.Rows L2
/-! a heap without the lists that are changed -/
def hd (p : Addr) (H : Hp) : Hp := fun a => if a = p then none else H a
theorem hd_ne {p a : Addr} {H : Hp} (h : a ≠ p) : hd p H a = H a := if_neg h
theorem hd_in {p : Addr} {H : Hp} : Same (hd p H) H := fun a o e => by
  by_cases h : a = p
  · rw [h] at e
    rw [show hd p H p = none from if_pos rfl] at e
    cases e
  · rw [hd_ne h] at e
    exact e
theorem hd_same {p : Addr} {H H' : Hp} (s : Same H H') : Same (hd p H) (hd p H') := fun a o e => by
  by_cases h : a = p
  · rw [h] at e
    rw [show hd p H p = none from if_pos rfl] at e
    cases e
  · rw [hd_ne h] at e ⊢
    exact s a o e
theorem hd_kp {p : Addr} {H H' : Hp} (k : Kp p H H') : Same (hd p H) (hd p H') := fun a o e => by
  by_cases h : a = p
  · rw [h] at e
    rw [show hd p H p = none from if_pos rfl] at e
    cases e
  · rw [hd_ne h] at e ⊢
    exact k a o (.inl h) e
theorem hd_upd {p : Addr} {H : Hp} {o : HO} : hd p (upd H p o) = hd p H := funext fun a => by
  by_cases h : a = p
  · rw [h]
    exact (if_pos rfl).trans (if_pos rfl).symm
  · rw [hd_ne h, hd_ne h, upd_ne h]
theorem hd_comm {p l : Addr} {H : Hp} : hd l (hd p H) = hd p (hd l H) := funext fun a => by
  by_cases h : a = p
  · by_cases g : a = l
    · rw [show hd l (hd p H) a = none from if_pos g, show hd p (hd l H) a = none from if_pos h]
    · rw [hd_ne g, show hd p H a = none from if_pos h, show hd p (hd l H) a = none from if_pos h]
  · by_cases g : a = l
    · rw [show hd l (hd p H) a = none from if_pos g, hd_ne h, show hd l H a = none from if_pos g]
    · rw [hd_ne g, hd_ne h, hd_ne h, hd_ne g]
theorem kp_hd {p : Addr} {H : Hp} {ys : List V} (e : H p = some (.lst ys)) : Kp p H (hd p H) := fun a o n k => by
  by_cases h : a = p
  · rcases n with n | n
    · exact absurd h n
    · rw [h, e] at k
      exact absurd (Option.some.inj k).symm (n ys)
  · rw [hd_ne h]
    exact k
/-- what is new is hidden: all else stands -/
theorem same_hd {p : Addr} {H H' : Hp} (n : H p = none) (s : Same H H') : Same H (hd p H') := fun a o e => by
  rw [hd_ne (fun h => by rw [h, n] at e; cases e)]
  exact s a o e
/-- the heap G with both hidden -/
abbrev hd2 (p l : Addr) (H : Hp) : Hp := hd l (hd p H)
theorem hd2_at {p l a : Addr} {H : Hp} {o : HO} (e : H a = some o) (h1 : a ≠ p) (h2 : a ≠ l) : hd2 p l H a = some o := by
  show hd l (hd p H) a = some o
  rw [hd_ne h2, hd_ne h1]
  exact e
theorem hd2_same {p l : Addr} {H H' : Hp} (s : Same H H') : Same (hd2 p l H) (hd2 p l H') := hd_same (hd_same s)
theorem hd2_kp {p l : Addr} {H H' : Hp} (k : Kp p H H') : Same (hd2 p l H) (hd2 p l H') := hd_same (hd_kp k)
theorem hd2_upd {p l : Addr} {H : Hp} {o : HO} : hd2 p l (upd H l o) = hd2 p l H := by
  show hd l (hd p (upd H l o)) = hd l (hd p H)
  rw [hd_comm, hd_upd, hd_comm]
theorem hd2_in {p l : Addr} {H : Hp} : Same (hd2 p l H) H := fun a o e => hd_in a o (hd_in a o e)
section
variable {K : PySem.W.Frag}
theorem dq_stepV {H : Hp} {x : V} {st : Stp} (h : StepV H x st) : Dq K H x (stepD st) := by
  cases st with
  | none =>
    have e : x = V.non := h
    subst e
    exact .non
  | some fw =>
    obtain ⟨f, ws⟩ := fw
    obtain ⟨a, b, rfl, h1, h2⟩ := h
    refine .tup h1 (.cons (.int f) (.cons (.tup h2 ?_) .nil))
    clear h2
    induction ws with
    | nil => exact .nil
    | cons n ns ih => exact .cons (.int n) ih
theorem dq_ints {H : Hp} : ∀ ns : List Int, DqAll K H (ivs ns) (dvs ns)
  | [] => .nil
  | n :: ns => .cons (.int n) (dq_ints ns)
theorem dq_stepsV {H : Hp} : ∀ {xs : List V} {sts : List Stp}, Paired (StepV H) xs sts → DqAll K H xs (stepsD sts)
  | _, _, .nil => .nil
  | _, _, .cons h t => .cons (dq_stepV h) (dq_stepsV t)
theorem DqAll.app {H : Hp} : ∀ {xs ys : List V} {ds es : List PyData}, DqAll K H xs ds → DqAll K H ys es → DqAll K H (xs ++ ys) (ds ++ es)
  | _, _, _, _, .nil, h => h
  | _, _, _, _, .cons r t, h => .cons r (t.app h)
theorem DqAll.take {H : Hp} : ∀ {xs : List V} {ds : List PyData} (n : Nat), DqAll K H xs ds → DqAll K H (xs.take n) (ds.take n)
  | _, _, 0, _ => by
    rw [List.take_zero, List.take_zero]
    exact .nil
  | _, _, n + 1, .nil => .nil
  | _, _, n + 1, .cons r t => .cons r (t.take n)
theorem DqAll.drop {H : Hp} : ∀ {xs : List V} {ds : List PyData} (n : Nat), DqAll K H xs ds → DqAll K H (xs.drop n) (ds.drop n)
  | _, _, 0, h => h
  | _, _, n + 1, .nil => .nil
  | _, _, n + 1, .cons r t => t.drop n
theorem DqAll.rep {H : Hp} {x : V} {d : PyData} (h : Dq K H x d) : ∀ n : Nat, DqAll K H (List.replicate n [x]).flatten (List.replicate n d)
  | 0 => .nil
  | n + 1 => .cons h (DqAll.rep h n)
/-- a thing, told by data that is not long -/
def Tg (K : PySem.W.Frag) (G : Hp) (b n : Nat) (P : PyData → Prop) (x : V) : Prop := ∃ d, Dq K G x d ∧ Bd b n d ∧ P d
theorem Tg.same {G G' : Hp} {b n : Nat} {P : PyData → Prop} {x : V} (h : Tg K G b n P x) (s : Same G G') : Tg K G' b n P x := by
  obtain ⟨d, h1, h2, h3⟩ := h
  exact ⟨d, Dq.same s d x h1, h2, h3⟩
end
end Af

set_option Elab.async false
set_option linter.all false
set_option maxRecDepth 100000
namespace Af
open PySem PySem.Spec PyProof.Rows L2
theorem same_hd2 {p D : Addr} {H H' : Hp} (n : H D = none) (s : Same H H') : Same (hd p H) (hd2 p D H') := fun a o e => by
  have ap : a ≠ p := fun h => by
    rw [h, show hd p H p = none from if_pos rfl] at e
    cases e
  rw [hd_ne ap] at e
  exact hd2_at (s a o e) ap (fun h => by rw [h, n] at e; cases e)
theorem hd2_to {p l l' : Addr} {H H' : Hp} (n : H l' = none) (s : Same H H') : Same (hd2 p l H) (hd2 p l' H') := fun a o e => by
  have e1 := hd2_in a o e
  have ap : a ≠ p := fun h => by
    have e2 := hd_in a o e
    rw [h, show hd p H p = none from if_pos rfl] at e2
    cases e2
  exact hd2_at (s a o e1) ap (fun h => by rw [h, n] at e1; cases e1)
theorem len_stepsD : ∀ l : List Stp, (stepsD l).length = l.length
  | [] => rfl
  | a :: r => by
    show (stepsD r).length + 1 = r.length + 1
    rw [len_stepsD r]
theorem flat_small {z : Int} (h : 0 ≤ z ∧ z < 8) : flatD (.int z) = true := by
  have k : ∀ n : Fin 8, flatD (.int ((n.val : Nat) : Int)) = true := by decide +kernel
  obtain ⟨n, rfl⟩ := Int.eq_ofNat_of_zero_le h.1
  exact k ⟨n, by omega⟩
theorem flat_place {z : Int} (h : 0 ≤ z ∧ z ≤ 64) : flatD (.int z) = true := by
  have k : ∀ n : Fin 65, flatD (.int ((n.val : Nat) : Int)) = true := by decide +kernel
  obtain ⟨n, rfl⟩ := Int.eq_ofNat_of_zero_le h.1
  exact k ⟨n, by omega⟩
theorem dvs_mem {ns : List Int} {d : PyData} (h : d ∈ dvs ns) : ∃ z ∈ ns, d = .int z := by
  obtain ⟨z, hz, e⟩ := List.mem_map.mp h
  exact ⟨z, hz, e.symm⟩
theorem bd_cells {ns : List Int} (hl : ns.length ≤ 25) (h : ∀ z ∈ ns, 0 ≤ z ∧ z < 8) : Bd 1200 2 (.tuple (dvs ns)) := by
  refine (Bd.tup (b := 45) (n := 1) (k := 25) (fun d hd => ?_) (by rw [show (dvs ns).length = ns.length from List.length_map ..]; exact hl)).mono (by decide) (by decide)
  obtain ⟨z, hz, rfl⟩ := dvs_mem hd
  exact Bd.flat (flat_small (h z hz))
theorem bd_step {n : Nat} {st : Stp} (o : OkS n st) (hn : n ≤ 24) : Bd 2500 3 (stepD st) := by
  cases st with
  | none => exact (Bd.flat rfl).mono (by decide) (by decide)
  | some fw =>
    obtain ⟨f, ws⟩ := fw
    obtain ⟨o1, o2, o3, o4⟩ := o
    refine (Bd.tup (b := 1200) (n := 2) (k := 2) (ds := [.int f, .tuple (dvs ws)]) (fun d hd => ?_) (Nat.le_refl 2)).mono (by decide) (by decide)
    simp only [List.mem_cons, List.not_mem_nil, or_false] at hd
    rcases hd with rfl | rfl
    · exact (Bd.flat (flat_place ⟨o1, by omega⟩)).mono (by decide) (by decide)
    · exact bd_cells (by omega) o4
theorem stepsD_mem {n : Nat} : ∀ {l : List Stp} {d : PyData}, (∀ x ∈ l, OkS n x) → d ∈ stepsD l → ∃ st ∈ l, d = stepD st
  | [], d, _, h => by cases h
  | a :: r, d, o, h => by
    rcases List.mem_cons.mp h with rfl | h
    · exact ⟨a, List.mem_cons_self, rfl⟩
    · obtain ⟨st, h1, h2⟩ := stepsD_mem (fun x hx => o x (List.mem_cons_of_mem _ hx)) h
      exact ⟨st, List.mem_cons_of_mem _ h1, h2⟩
theorem bd_steps {n : Nat} {l : List Stp} (o : ∀ x ∈ l, OkS n x) (hn : n ≤ 24) : ∀ d ∈ stepsD l, Bd 4000 6 d := fun d hd => by
  obtain ⟨st, h1, rfl⟩ := stepsD_mem o hd
  exact (bd_step (o st h1) hn).mono (by decide) (by decide)
/-- a triple that is no plan's -/
def BadT (K : PySem.W.Frag) (good : PyData → PyData → PyData → Bool) (G : Hp) (u : V) : Prop := ∃ t b w s db dw ds, u = .ref t ∧ G t = some (.tup [b, w, s]) ∧ Dq K G b db ∧ Dq K G w dw ∧ Dq K G s ds ∧ Bd 190000 20 db ∧ Bd 190000 20 dw ∧ Bd 190000 20 ds ∧ few ds ∧ good db dw ds = false
theorem BadT.same {K : PySem.W.Frag} {good : PyData → PyData → PyData → Bool} {G G' : Hp} {u : V} (h : BadT K good G u) (s : Same G G') : BadT K good G' u := by
  obtain ⟨t, b, w, v, db, dw, ds, e, h1, h2, h3, h4, r⟩ := h
  exact ⟨t, b, w, v, db, dw, ds, e, s _ _ h1, Dq.same s _ _ h2, Dq.same s _ _ h3, Dq.same s _ _ h4, r⟩
/-- a triple that was just laid -/
theorem bad_mk {K : PySem.W.Frag} {good : PyData → PyData → PyData → Bool} {p l t : Addr} {H : Hp} {b w v : V} {db dw ds : PyData} {ys zs : List V} (hp : H p = some (.lst ys)) (hl : H l = some (.lst zs)) (ht : H t = some (.tup [b, w, v])) (h2 : Dq K (hd2 p l H) b db) (h3 : Dq K (hd2 p l H) w dw) (h4 : Dq K (hd2 p l H) v ds)
    (b1 : Bd 190000 20 db) (b2 : Bd 190000 20 dw) (b3 : Bd 190000 20 ds) (f : few ds) (bad : good db dw ds = false) : BadT K good (hd2 p l H) (.ref t) :=
  ⟨t, b, w, v, db, dw, ds, rfl, hd2_at ht (ne_of ht hp (by intro q; cases q)) (ne_of ht hl (by intro q; cases q)), h2, h3, h4, b1, b2, b3, f, bad⟩
end Af

set_option Elab.async false
set_option linter.all false
set_option maxRecDepth 100000
namespace Af
open PySem PySem.Spec PyProof.Rows L2
/-! repr of data of any kind -/
def rReprA (K : PySem.W.Frag) : List V → Hp → VK → Prop := fun xs H Q => ∃ (x : V) (d : PyData), xs = [x] ∧ Dq K H x d ∧ d.showable = true ∧ d.depth ≤ 60 ∧ d.shown.length ≤ sizeLine ∧ Q (.str d.shown) H
theorem call_reprA {X : Cx} (hg : X.A.guards = some []) (hu : X.A.units + 64 < cLine) : CallR X (.builtin "repr") (rReprA X.K) := by
  intro pins s σ H xs us Q I r h
  obtain ⟨x, d, rfl, hd, sh, dp, sz, q⟩ := h
  have hd0 := hd
  cases hd with
  | int i =>
    obtain ⟨u, rfl, ru⟩ := vals1 r
    obtain ⟨t, rfl⟩ := ru
    have lg : i.natAbs.log2 < 1920 := of_decide_eq_true (show decide (i.natAbs.log2 < 1920) = true from by simpa only [PyData.showable] using sh)
    refine PySem.P.repr_of_int lg ⟨.str _, H, I.tok _, ⟨_, rfl⟩, ?_⟩
    simpa only [PyData.shown] using q
  | non =>
    obtain ⟨u, rfl, ru⟩ := vals1 r
    cases (show u = Value.none from ru)
    refine PySem.P.repr_of_none ⟨.str _, H, I.tok _, ⟨_, rfl⟩, ?_⟩
    simpa only [PyData.shown] using q
  | bl b =>
    obtain ⟨u, rfl, ru⟩ := vals1 r
    cases (show u = Value.bool b from ru)
    refine PySem.P.repr_of_bool ⟨.str (PyData.bool b).shown, H, I.tok _, ⟨s.toks, ?_⟩, q⟩
    cases b <;> simp only [PyData.shown] <;> rfl
  | str z =>
    obtain ⟨u, rfl, ru⟩ := vals1 r
    obtain ⟨t, rfl⟩ := ru
    refine PySem.P.repr_of_str ⟨.str (PyData.str z).shown, H, I.tok _, ⟨s.toks, ?_⟩, q⟩ ?_
    · simp only [PyData.shown]
    simpa only [PyData.shown] using sz
  | @lst a xs ds e t =>
    have dp' : PyData.depthAll ds + 1 ≤ 60 := by simpa only [PyData.depth] using dp
    exact call_reprL hg hu pins s σ H _ us Q I r ⟨a, xs, ds, rfl, e, t, by simpa only [PyData.showable] using sh, by omega, sz, q⟩
  | @tup a xs ds e t =>
    have dp' : PyData.depthAll ds + 1 ≤ 60 := by simpa only [PyData.depth] using dp
    exact call_repr' hg hu pins s σ H _ us Q I r ⟨a, xs, ds, rfl, e, t, by simpa only [PyData.showable] using sh, by omega, sz, q⟩
  | @dic a ha =>
    obtain ⟨u, rfl, ru⟩ := vals1 r
    cases (show u = Value.ref a from ru)
    obtain ⟨_, hne, vs, rv, o, es, ep, h1, h2, h3, _, h4, _⟩ := dk_of I.hok ha
    cases rv
    have e : es.toList = [] := by
      cases q : es.toList with
      | nil => rfl
      | cons y l =>
        rw [q] at h4
        cases h4
    have rd : Reads s.heap (.ref a) (.dict []) ([a] ++ []) := Reads.dict (kvs := []) (as := []) (bs := []) h1 h2.1 h3 (by rw [e]; exact .nil) (by rw [e]; exact .nil)
    refine repr_of_reads' (h₀ := s.heap) rd sh (fun _ z => ?_) hg (by omega) (fun _ _ y => y) (fun h' u tk keep => ⟨.str (PyData.dict []).shown, H, I.kept keep, ⟨u, rfl⟩, q⟩) sz
    have z' : sysModules ∈ [a] := z
    rw [← List.mem_singleton.mp z'] at hne
    exact absurd hne (by simp)
end Af

set_option Elab.async false
set_option linter.all false
set_option maxRecDepth 100000
set_option maxHeartbeats 4000000
namespace Af
open PySem L2
abbrev s_Plan___eq : Stmt := inClass (top 30) 9
abbrev N_Plan___eq : List Str := ["self", "other"]
theorem sc_Plan___eq : FnScope N_Plan___eq ["self", "other"] (defScope s_Plan___eq) := ⟨rfl, rfl, rfl, by decide +kernel, rfl, by decide +kernel, by decide +kernel⟩

abbrev s_l_plan_of : Stmt := top 75
abbrev N_l_plan_of : List Str := ["_law_plan_here"]
theorem sc_l_plan_of : FnScope N_l_plan_of ["_law_plan_here"] (defScope s_l_plan_of) := ⟨rfl, rfl, rfl, by decide +kernel, rfl, by decide +kernel, by decide +kernel⟩

/-- x is a plan of the program's with these parts -/
structure PlanI (p C : Addr) (H : Hp) (x : V) (pl : Pl) : Prop where
  ex : ∃ (a dx ca sl : Addr) (fs : List (Str × V)) (xs : List V), x = .ref a ∧ H a = some (.ins C dx fs) ∧ fs.lookup ("_base" : Str) = some (.ref ca) ∧ fs.lookup ("_width" : Str) = some (.int pl.w) ∧ fs.lookup ("_steps" : Str) = some (.ref sl) ∧
    H ca = some (.tup (ivs pl.cs)) ∧ sl ≠ p ∧ H sl = some (.lst xs) ∧ Paired (StepV H) xs pl.sts
theorem PlanI.kp {p C : Addr} {H H' : Hp} {x : V} {pl : Pl} (k : Kp p H H') (h : PlanI p C H x pl) : PlanI p C H' x pl := by
  obtain ⟨a, dx, ca, sl, fs, xs, e, h1, l1, l2, l3, h2, n, h3, h4⟩ := h.ex
  exact ⟨a, dx, ca, sl, fs, xs, e, k.ins h1, l1, l2, l3, k.tup h2, n, k.lst n h3, steps_kp k h4⟩
def sp_eq (K : PySem.W.Frag) (C : Addr) : Sp := fun vs H Q _ => ∃ (p : Addr) (x y : V) (pl : Pl), vs = [x, y] ∧ PlanI p C H x pl ∧ ((∃ pl', PlanI p C H y pl' ∧ Q (.bl (samePl pl pl')) H) ∨ ∃ n, Ty K H y n ∧ Q (.bl false) H)

/-- a plan that was made, whole -/
structure PlanF (C : Addr) (H : Hp) (x : V) (pl : Pl) (sl ql el : Addr) : Prop where
  ex : ∃ a ca xs ys, x = .ref a ∧ PlanX C a ca sl ql el H pl xs ys ∧ H ca = some (.tup (ivs pl.cs)) ∧ Paired (StepV H) xs pl.sts ∧ Paired (PieceA H) ys (allP pl.w 0 pl.sts)
  ok : OkP pl
structure PlanW (p C : Addr) (H : Hp) (x : V) (pl : Pl) : Prop where
  ex : ∃ sl ql el, PlanF C H x pl sl ql el ∧ sl ≠ p ∧ ql ≠ p ∧ el ≠ p
structure PlanN (C : Addr) (H0 H : Hp) (x : V) (pl : Pl) : Prop where
  ex : ∃ sl ql el, PlanF C H x pl sl ql el ∧ H0 sl = none ∧ H0 ql = none ∧ H0 el = none
theorem PlanF.kp {p C sl ql el : Addr} {H H' : Hp} {x : V} {pl : Pl} (h : PlanF C H x pl sl ql el) (k : Kp p H H') (n1 : sl ≠ p) (n2 : ql ≠ p) (n3 : el ≠ p) : PlanF C H' x pl sl ql el := by
  obtain ⟨a, ca, xs, ys, e, ⟨⟨dx, fs, h1, h2⟩, h3, h4, h5⟩, h6, h7, h8⟩ := h.ex
  exact ⟨⟨a, ca, xs, ys, e, ⟨⟨dx, fs, k.ins h1, h2⟩, k.lst n1 h3, k.lst n2 h4, k.lst n3 h5⟩, k.tup h6, steps_kp k h7, pieceA_kp k h8⟩, h.ok⟩
theorem PlanF.same {C sl ql el : Addr} {H H' : Hp} {x : V} {pl : Pl} (h : PlanF C H x pl sl ql el) (s : Same H H') : PlanF C H' x pl sl ql el := by
  obtain ⟨a, ca, xs, ys, e, ⟨⟨dx, fs, h1, h2⟩, h3, h4, h5⟩, h6, h7, h8⟩ := h.ex
  exact ⟨⟨a, ca, xs, ys, e, ⟨⟨dx, fs, s _ _ h1, h2⟩, s _ _ h3, s _ _ h4, s _ _ h5⟩, s _ _ h6, steps_same s h7, pieceA_st s h8⟩, h.ok⟩
theorem PlanW.kp {p C : Addr} {H H' : Hp} {x : V} {pl : Pl} (h : PlanW p C H x pl) (k : Kp p H H') : PlanW p C H' x pl := by
  obtain ⟨sl, ql, el, f, n1, n2, n3⟩ := h.ex
  exact ⟨sl, ql, el, f.kp k n1 n2 n3, n1, n2, n3⟩
theorem PlanW.same {p C : Addr} {H H' : Hp} {x : V} {pl : Pl} (h : PlanW p C H x pl) (s : Same H H') : PlanW p C H' x pl := h.kp (Kp.same s)
theorem PlanN.w {p C : Addr} {H0 H : Hp} {x : V} {pl : Pl} {o : HO} (h : PlanN C H0 H x pl) (e : H0 p = some o) : PlanW p C H x pl := by
  obtain ⟨sl, ql, el, f, n1, n2, n3⟩ := h.ex
  exact ⟨sl, ql, el, f, nofree e n1 |>.symm |> fun z => z.symm, nofree e n2, nofree e n3⟩
theorem PlanW.i {p C : Addr} {H : Hp} {x : V} {pl : Pl} (h : PlanW p C H x pl) : PlanI p C H x pl := by
  obtain ⟨sl, ql, el, f, n1, n2, n3⟩ := h.ex
  obtain ⟨a, ca, xs, ys, e, ⟨⟨dx, fs, h1, h2, h2', h2'', _⟩, h3, h4, h5⟩, h6, h7, h8⟩ := f.ex
  exact ⟨a, dx, ca, sl, fs, xs, e, h1, h2, h2', h2'', h6, n1, h3, h7⟩
theorem PlanW.ok {p C : Addr} {H : Hp} {x : V} {pl : Pl} (h : PlanW p C H x pl) : OkP pl := by
  obtain ⟨_, _, _, f, _⟩ := h.ex
  exact f.ok
/-- the classes' facts of the five properties -/
structure PropC (P : Program) (w : World) (K : PySem.W.Frag) (mg : Str → Option Value) (base : Heap) (C : Addr) (f : Str) (sp : Sp) : Prop where
  ex : ∃ p g fd, PropOf K C f p g ∧ FnOk P w K mg base CX0 1 g fd ["self"] sp ∧ Binds K fd ["self"] []
theorem pe_propC {X : Cx} {C : Addr} {f : Str} {sp : Sp} {e : Expr} {pos : Pos} {ta : TE} {j : Nat} (c : Cls X.K C) (h : PropC X.prog X.w X.K X.mg X.base C f sp) (hr : Room j X.A) (he : PE X e ta) (hj : 2 ≤ j := by decide) (hab : attributeBase e f X.env (eval e X.env) = eval e X.env := by rfl) :
    PE X (.Attribute e f pos) (tProp C sp [] E0 ta) := by
  obtain ⟨p, g, fd, hp, F, b⟩ := h.ex
  exact pe_prop he c hp F (hr.mono hj) b .nil pass0 hab
def sp_plan_of (C : Addr) : Sp := fun vs H Q _ => ∃ (p : Addr) (v : V) (pl : Pl), vs = [v] ∧ PlanV p H v pl ∧ OkP pl ∧ ∀ y H', Same H H' → PlanN C H H' y pl → Q y H'

theorem made_outW {K : PySem.W.Frag} {C : Addr} {wd : Int} {pl : Pl} {H G : Hp} {Q : VK} {E : XK} {x dx ca sa : Addr} {xs : List V} (hw : wd = pl.w) (hx : H x = none) (s0 : Same H G) (gx : G x = some (.ins C dx [])) (h1 : G ca = some (.tup (ivs pl.cs))) (h2 : G sa = some (.lst xs)) (h3 : Paired (StepV G) xs pl.sts) (okp : OkP pl)
    (k : ∀ H', Same H H' → PlanN C H H' (.ref x) pl → Q .non H') : sp_initX C [.ref x, .ref ca, .int wd, .ref sa] G Q E := by
  subst hw
  refine ⟨x, dx, ca, sa, pl, xs, rfl, gx, h1, h2, h3, okp, fun H' sl ql el fs ys ko nsl nql nel hx' l1 l2 l3 l4 l5 l6 l7 hsl hql hys hel => ?_⟩
  have s1 : Same H H' := fun b u e => ko b u (ne_of_none e hx) (s0 b u e)
  have nf : ∀ {c}, G c = none → H c = none := fun {c} e => s0.free e
  have kg : ∀ {c : Addr} {l : List V}, G c = some (.tup l) → H' c = some (.tup l) := fun {c l} e => ko c _ (ne_of e gx (by intro q; cases q)) e
  have st' : Paired (StepV H') xs pl.sts := L2.Paired.mapP h3 fun v st z => by
    cases st with
    | none => exact z
    | some fw =>
      obtain ⟨f, ws⟩ := fw
      obtain ⟨a, b, e, z1, z2⟩ := z
      exact ⟨a, b, e, kg z1, kg z2⟩
  exact k H' s1 ⟨sl, ql, el, ⟨⟨x, ca, xs, ys, rfl, ⟨⟨dx, fs, hx', l1, l2, l3, l4, l5, l6, l7⟩, hsl, hql, hel⟩, kg h1, st', hys⟩, okp⟩, nf nsl, nf nql, nf nel⟩
section
variable {P : Program} {w : World} {K : PySem.W.Frag} {mg : Str → Option Value} {base : Heap}
theorem ok_eq {f C : Addr} {fd : FuncData} (F : Fun K "__eq__" "Plan.__eq__" s_Plan___eq f fd) (T : Txt mg) (TC : PlanC K mg C) : FnOk P w K mg base CX0 1 f fd ["self", "other"] (sp_eq K C) := by
  have c_Plan := TC.mgC
  refine F.ok sc_Plan___eq (fun vs H Q E h => ?_) (fun cdv A outer s H vs Q E hr h => ?_)
  · obtain ⟨_, _, _, _, rfl, _⟩ := h
    rfl
  obtain ⟨p, x, y, pl, rfl, hx, k⟩ := h
  refine ⟨_, (pss_one (ps_ret (pe_and (pe_callB call_isi (by rfl) T.isinstance (by decide +kernel) (pa_cons (pv 1) (pa_cons (pe_glob (v := .ref C) rfl c_Plan rfl) pa_nil))) (pe_and (pe_cmpR (op_eqD hr.units) (pe_fld (pv 0) rfl) (pe_fld (pv 1) rfl) (nomark _)) (pe_and (pe_cmpR (op_eqD hr.units) (pe_fld (pv 0) rfl) (pe_fld (pv 1) rfl) (nomark _)) (pe_one (pe_cmpR (op_eqD hr.units) (pe_fld (pv 0) rfl) (pe_fld (pv 1) rfl) (nomark _)))))))), ?_⟩
  obtain ⟨a, dx, ca, sl, fs, xs, rfl, h1, l1, l2, l3, h2, n, h3, h4⟩ := hx.ex
  rcases k with ⟨pl', hy, k⟩ | ⟨m, t, k⟩
  · obtain ⟨b, dy, cb, tl, gs, ys, rfl, g1, m1, m2, m3, g2, n2, g3, g4⟩ := hy.ex
    refine ⟨_, rfl, .ref b, .ref C, _, _, true, rfl, .own C, TC.ty g1, TC.is1, ?_⟩
    refine ⟨_, rfl, iteT ?_⟩
    refine ⟨_, rfl, a, C, dx, fs, _, rfl, h1, TC.cl, TC.nB, l1, _, rfl, b, C, dy, gs, _, rfl, g1, TC.cl, TC.nB, m1, ?_⟩
    refine ⟨_, _, .tup (SqT.of h2) (dp_ints _), .tup (SqT.of g2) (dp_ints _), sh_ints _, sh_ints _, _, rfl, ?_⟩
    cases e1 : PyData.eqv (.tuple (dvs pl.cs)) (.tuple (dvs pl'.cs)) with
    | false =>
      refine iteF ?_
      have : samePl pl pl' = false := by unfold samePl; rw [e1]; rfl
      rw [this] at k
      exact k
    | true =>
      refine iteT ?_
      refine ⟨_, rfl, a, C, dx, fs, _, rfl, h1, TC.cl, TC.nW, l2, _, rfl, b, C, dy, gs, _, rfl, g1, TC.cl, TC.nW, m2, ?_⟩
      refine ⟨_, _, .int _, .int _, sh_int _, sh_int _, _, rfl, ?_⟩
      cases e2 : PyData.eqv (.int pl.w) (.int pl'.w) with
      | false =>
        refine iteF ?_
        have : samePl pl pl' = false := by unfold samePl; rw [e1, e2]; rfl
        rw [this] at k
        exact k
      | true =>
        refine iteT ?_
        refine ⟨_, rfl, a, C, dx, fs, _, rfl, h1, TC.cl, TC.nS, l3, _, rfl, b, C, dy, gs, _, rfl, g1, TC.cl, TC.nS, m3, ?_⟩
        refine ⟨_, _, .lst (SqL.of h3) (dp_steps h4), .lst (SqL.of g3) (dp_steps g4), sh_steps _, sh_steps _, ?_⟩
        have : samePl pl pl' = PyData.eqv (.list (stepsD pl.sts)) (.list (stepsD pl'.sts)) := by unfold samePl; rw [e1, e2]; rfl
        rw [this] at k
        exact k
  · refine ⟨_, rfl, y, .ref C, _, _, false, rfl, .own C, .base t.ty, TC.is0 m t.mem, ?_⟩
    exact ⟨_, rfl, iteF k⟩

theorem ok_plan_of {f C fI : Addr} {fd fdI : FuncData} (F : Fun K "_law_plan_of" "_law_plan_of" s_l_plan_of f fd) (T : Txt mg) (TC : PlanC K mg C) (M_Plan : Mk K C fI)
    (G_Plan : FnOk P w K mg base CX0 6 fI fdI ["self", "base", "width", "steps"] (sp_initX C)) (b_Plan : Binds K fdI ["self", "base", "width", "steps"] []) : FnOk P w K mg base CX0 8 f fd ["_law_plan_here"] (sp_plan_of C) := by
  refine F.ok sc_l_plan_of (fun vs H Q E h => ?_) (fun cdv A outer s H vs Q E hr h => ?_)
  · obtain ⟨_, _, _, rfl, _⟩ := h
    rfl
  obtain ⟨p, v, pl, rfl, hv, gd, k⟩ := h
  refine ⟨_, (pss_one (ps_ret (pe_make M_Plan G_Plan hr rfl TC.mgC b_Plan .nil pass0 (pa_cons (pe_ix ix_seq' (pv 0) pe_int (fun _ _ => rfl)) (pa_cons (pe_ix ix_seq' (pv 0) pe_int (fun _ _ => rfl)) (pa_cons (pe_ix ix_seq' (pv 0) pe_int (fun _ _ => rfl)) pa_nil)))))), ?_⟩
  obtain ⟨a, ca, sa, xs, rfl, h1, h2, n, h3, h4⟩ := hv.ex
  refine ⟨_, rfl, a, _, _, _, rfl, rfl, .inr h1, rfl, _, rfl, a, _, _, _, rfl, rfl, .inr h1, rfl, _, rfl, a, _, _, _, rfl, rfl, .inr h1, rfl, fun x dx hx hdx ndx => ?_⟩
  have s0 : Same H (upd (upd H dx (.own x)) x (.ins C dx [])) := fun b o e => by
    rw [upd_ne (ne_of_none e hx), upd_ne (ne_of_none e hdx)]
    exact e
  exact made_outW (K := K) (pl := pl) rfl hx s0 upd_same (s0 _ _ h2) (s0 _ _ h3) (steps_same s0 h4) gd fun H' s' n => ⟨rfl, k _ H' s' n⟩
end
end Af

set_option Elab.async false
set_option linter.all false
set_option maxRecDepth 100000
namespace Af
open PySem L2
abbrev s_Plan_epoch_of : Stmt := inClass (top 30) 6
abbrev N_Plan_epoch_of : List Str := ["self", "piece"]
theorem sc_Plan_epoch_of : FnScope N_Plan_epoch_of ["self", "piece"] (defScope s_Plan_epoch_of) := ⟨rfl, rfl, rfl, by decide +kernel, rfl, by decide +kernel, by decide +kernel⟩

/-- an own exception class without an __init__ of its own -/
structure ExcC (K : PySem.W.Frag) (mg : Str → Option Value) (n : Str) (C : Addr) : Prop where
  gP : mg n = some (.ref C)
  xP : PySem.W.excIn K C [.type "ValueError", .type "Exception", .type "BaseException", .type "object"] "ValueError.__new__" = true
  kP : PySem.W.keepIn K (.ref C) = true
  bP : PySem.W.subIn K (.ref C) (.type "BaseException") = some true
  tP : PySem.W.typeIn K (.ref C) = some (.type "type")
def sp_epoch_of (K : PySem.W.Frag) (C CE : Addr) : Sp := fun vs H Q E => ∃ (x ca sl ql el : Addr) (pl : Pl) (xs ys : List V) (v : V) (n : String), vs = [.ref x, v] ∧ PlanX C x ca sl ql el H pl xs ys ∧ ys.length = (allP pl.w 0 pl.sts).length ∧ Ty K H v n ∧
  (∀ (i : Nat) (e : Int), v = .int i → (pieceE pl.sts (allP pl.w 0 pl.sts))[i]? = some e → Q (.int e) H) ∧ (idxB ys.length v = false → E (.ref CE) none H)
section
variable {P : Program} {w : World} {K : PySem.W.Frag} {mg : Str → Option Value} {base : Heap}
theorem ok_epoch_of {f C CE : Addr} {fd : FuncData} (F : Fun K "epoch_of" "Plan.epoch_of" s_Plan_epoch_of f fd) (T : Txt mg) (TC : PlanC K mg C) (X : ExcC K mg "UnknownPiece" CE)
    (c_is_index : Cal P w K mg base 2 "is_index" ["thing", "many"] (sp_is_index K)) :
    FnOk P w K mg base (L2.CX P w) 3 f fd ["self", "piece"] (sp_epoch_of K C CE) := by
  refine F.okX sc_Plan_epoch_of (fun vs H Q E h => ?_) (fun cdv A outer s H vs Q E hr h => ?_)
  · obtain ⟨_, _, _, _, _, _, _, _, _, _, rfl, _⟩ := h
    rfl
  obtain ⟨x, ca, sl, ql, el, pl, xs, ys, v, n, rfl, ⟨⟨dx, fs, hx, hB, hW, hS, hP, hE, hN, hM⟩, h1, h2, h3⟩, hlen, ht, kg, kb⟩ := h
  refine ⟨_, (pss_cons (ps_if (pt_not (pt_val (pe_cal c_is_index hr (pa_cons (pv 1) (pa_cons (pe_callB call_len' (by rfl) T.len (by decide +kernel) (pa_cons (pe_fld (pv 0) rfl) pa_nil)) pa_nil)))))
      (pss_one (ps_raise rfl (takes_of rfl rfl rfl rfl) (pmk_own PySem.F.excBase_ValueError X.xP X.gP X.kP (raises_own X.bP X.tP) rfl)))
      pss_nil)
    (pss_one (ps_ret (pe_ix ix_seq' (pe_fld (pv 0) rfl) (pv 1) (fun _ _ => rfl))))), ?_⟩
  refine ⟨_, rfl, _, rfl, x, C, dx, fs, _, rfl, hx, TC.cl, TC.nP, hP, ql, ys, rfl, .inl h2, _, _, n, rfl, ht, ?_⟩
  refine ⟨_, rfl, ?_⟩
  cases e : idxB (ys.length : Int) v with
  | false => exact kb e
  | true =>
    obtain ⟨z, rfl⟩ : ∃ z, v = .int z := by
      cases v with
      | int z => exact ⟨z, rfl⟩
      | _ => cases e
    have e' : (decide (0 ≤ z) && decide (z < (ys.length : Int))) = true := e
    rw [Bool.and_eq_true] at e'
    have z0 := of_decide_eq_true e'.1
    have z1 := of_decide_eq_true e'.2
    obtain ⟨i, rfl⟩ := Int.eq_ofNat_of_zero_le z0
    have pl' : (pieceE pl.sts (allP pl.w 0 pl.sts)).length = ys.length := by
      unfold pieceE
      rw [List.length_map, hlen]
    have il : i < (pieceE pl.sts (allP pl.w 0 pl.sts)).length := by omega
    exact ⟨_, rfl, x, C, dx, fs, _, rfl, hx, TC.cl, TC.nE, hE, _, rfl, el, _, _, _, rfl, rfl, .inl h3, atI_nat (ivs_get il), kg i _ rfl (List.getElem?_eq_getElem il)⟩
end
end Af

set_option Elab.async false
set_option linter.all false
set_option maxRecDepth 100000
namespace Af
open PySem L2
abbrev s_l_ranks : Stmt := top 69
abbrev N_l_ranks : List Str := ["_law_plan_here", "_law_part"]
theorem sc_l_ranks : FnScope N_l_ranks ["_law_plan_here"] (defScope s_l_ranks) := ⟨rfl, rfl, rfl, by decide +kernel, rfl, by decide +kernel, by decide +kernel⟩

theorem cut_to (xs : List V) (n : Nat) : cutV xs none (some (n : Int)) = xs.take n := by
  unfold cutV
  have : HT.sIx xs.length xs.length (some (n : Int)) = min n xs.length := HT.sIx_nat _ _ n
  rw [this, HT.sIx_none, List.drop_zero, Nat.sub_zero]
  by_cases h : n ≤ xs.length
  · rw [Nat.min_eq_left h]
  · rw [Nat.min_eq_right (by omega), List.take_length, List.take_of_length_le (by omega)]
theorem pe_cntK {X : Cx} {K : PySem.W.Frag} {o e : Expr} {es : List Expr} {to : TE} {t : TA} {apos cpos : Pos} (hK : X.K = K) (hu : X.A.units + 1 < cLine) (ho : PE X o to) (ha : PA X (e :: es) t)
    (hbase : attributeBase o "count" X.env (eval o X.env) = eval o X.env := by rfl)
    (hfew : ((backTo cpos (starEach (e :: es) X.env)).all (fun x => !x.1) && (backToKw cpos (keywordEach [] X.env)).all (fun x => x.1.isSome)
      && decide ((e :: es).length + ([] : List Keyword).length + (if ([] : List Keyword).isEmpty then 0 else 1) < 30)) = true := by rfl)
    (hline : (apos.endLine == cpos.line) = true := by rfl) (hs : starEach (e :: es) X.env = (false, eval e X.env) :: starEach es X.env := by rfl) (hplain : (backTo cpos (starEach es X.env)).any (·.1) = false := by rfl) :
    PE X (.Call (.Attribute o "count" apos) (e :: es) [] cpos) (tBM K "list" (rCntX K) to t) := by
  subst hK
  exact pe_bm PySem.F.plainAttrs_list PySem.F.slot_list_count PySem.F.type_list_count (mt_countX hu) ho ha hbase hfew hline hs hplain
/-- the epoch of each part, as the law counts it -/
def rnk (sts : List Stp) (ps : List (Int × (Int × List Int))) : List Int := ps.map fun p => ((bars (sts.take p.1.toNat) : Nat) : Int)
def sp_ranks : Sp := fun vs H Q _ => ∃ (a ca sa : Addr) (sp : Int) (xs : List V) (sts : List Stp), vs = [.ref a] ∧ H a = some (.tup [.ref ca, .int sp, .ref sa]) ∧ H sa = some (.lst xs) ∧ Paired (StepV H) xs sts ∧ 0 < sp ∧ xs.length ≤ 100 ∧
  (∀ f ws, some (f, ws) ∈ sts → ws.length ≤ 100) ∧ (allP sp 0 sts).length ≤ 40 ∧ ∀ l H', Same H H' → H l = none → H' l = some (.lst (ivs (rnk sts (allP sp 0 sts)))) → Q (.ref l) H'
section
variable {P : Program} {w : World} {K : PySem.W.Frag} {mg : Str → Option Value} {base : Heap}
theorem ok_ranks {f : Addr} {fd : FuncData} (F : Fun K "_law_ranks" "_law_ranks" s_l_ranks f fd) (T : Txt mg) (c_l_parts : Cal P w K mg base 2 "_law_parts" ["_law_plan_here"] sp_partsX) : FnOk P w K mg base CX0 3 f fd ["_law_plan_here"] sp_ranks := by
  refine F.ok sc_l_ranks (fun vs H Q E h => ?_) (fun cdv A outer s H vs Q E hr h => ?_)
  · obtain ⟨_, _, _, _, _, _, rfl, _⟩ := h
    rfl
  obtain ⟨a, ca, sa, sp, xs, sts, rfl, ha, hsa, hst, hsp, hxl, hw, h40, k⟩ := h
  refine ⟨_, (pss_one (ps_ret (pe_lc (own := [("_law_part", 1)]) (g := (gName 1)) (tt := tYes) rfl sc_l_ranks.nd (pi_list (pe_cal c_l_parts hr (pa_cons (pv 0) pa_nil))) (blkOk_by (own := [("_law_part", 1)]) (N := N_l_ranks) (sc := defScope s_l_ranks) (by decide +kernel)) (fun _ _ _ _ _ => pg_name (i := 1) sc_l_ranks.nd rfl (Or.inl rfl)) (fun _ _ _ _ _ => pts_nil) (fun _ _ _ _ _ => (pe_cntK (K := K) rfl (Nat.lt_of_le_of_lt (Nat.add_le_add_left (show 1 ≤ 64 by decide) _) hr.units) (pe_slice sl_list' (pe_ix ix_seq' (pv 0) pe_int (fun _ _ => rfl)) po_none (po_some (pe_ix ix_seq' (pv 1) pe_int (fun _ _ => rfl)))) (pa_cons pe_non pa_nil)))))), ?_⟩
  refine ⟨_, rfl, a, ca, sa, sp, xs, sts, rfl, ha, hsa, hst, hsp, hxl, hw, fun l H1 ys s1 hl h1 hp => ?_⟩
  have ylen : ys.length = (allP sp 0 sts).length := paired_len hp
  refine ⟨l, rfl, ⟨ys, SqL.of h1⟩, fun D hD => lc_list (K := K) (a := l) (xs := ys) (fun i H' => Same H1 H' ∧ H' D = some (.lst (ivs ((rnk sts (allP sp 0 sts)).take i)))) ?_ ?_ ?_ ?_⟩
  · exact ⟨same_new hD, upd_same⟩
  · rintro i H' _ ⟨s2, _⟩
    exact SqL.of (s2 _ _ h1)
  · rintro i y H' hy ⟨s2, h2⟩
    have il : i < ys.length := (List.getElem?_eq_some_iff.mp hy).1
    obtain ⟨p, hp1, t, b, rfl, ht, hb⟩ := paired_get hp hy
    obtain ⟨j, hj1, _, hj2⟩ := allP_in (List.mem_of_getElem? hp1)
    have ge : (rnk sts (allP sp 0 sts))[i]? = some ((bars (sts.take j) : Nat) : Int) := by
      unfold rnk
      rw [List.getElem?_map, hp1]
      show some ((bars (sts.take p.1.toNat) : Nat) : Int) = _
      rw [hj1, Int.toNat_natCast]
    have ht' := s2 _ _ ht
    rw [hj1] at ht'
    refine ⟨rfl, _, rfl, a, _, _, _, rfl, rfl, .inr (s2 _ _ (s1 _ _ ha)), rfl, _, rfl, t, _, _, _, rfl, rfl, .inr ht', rfl, _, rfl, sa, _, rfl, s2 _ _ (s1 _ _ hsa), fun c H3 hc s3 h3 => ?_⟩
    rw [cut_to] at h3
    have st3 : Paired (StepV H3) (xs.take j) (sts.take j) := paired_take j (steps_same (s1.trans (s2.trans s3)) hst)
    refine ⟨.inl ⟨rfl, _, SqL.of h3⟩, c, _, _, rfl, rfl, SqL.of h3, dp_steps st3, (lay_steps _).1, ?_⟩
    rw [bars_count]
    refine ⟨_, s3 _ _ h2, szl (by rw [ivs_len, List.length_take]; omega), same_mut (s2.trans s3) hD, ?_⟩
    rw [upd_same, List.take_add_one, ge]
    unfold ivs
    rw [List.map_append]
    rfl
  · rintro H3 ⟨s3, h3⟩
    have pl' : (rnk sts (allP sp 0 sts)).length = ys.length := by
      unfold rnk
      rw [List.length_map, ylen]
    rw [← pl', List.take_length] at h3
    exact k D H3 (s1.trans s3) (s1.free hD) h3
end
end Af

set_option Elab.async false
set_option linter.all false
namespace Af
open PySem L2
theorem sub_len : ∀ {l1 l2 : List Nat}, l1.Nodup → (∀ x ∈ l1, x ∈ l2) → l1.length ≤ l2.length
  | [], _, _, _ => Nat.zero_le _
  | x :: l1, l2, n, s => by
    obtain ⟨n1, n2⟩ := List.nodup_cons.mp n
    have h := sub_len (l2 := l2.erase x) n2 fun y hy => (List.mem_erase_of_ne (fun (e : y = x) => n1 (by rw [← e]; exact hy))).mpr (s y (List.mem_cons_of_mem _ hy))
    have hx := s x List.mem_cons_self
    rw [List.length_erase_of_mem hx] at h
    have := List.length_pos_of_mem hx
    rw [List.length_cons]
    omega
theorem all_in {l : List Nat} {c j : Nat} (n : l.Nodup) (h : ∀ x ∈ l, x < c) (hl : c ≤ l.length) (hj : j < c) : j ∈ l := by
  by_cases m : j ∈ l
  · exact m
  have q := sub_len (l1 := j :: l) (l2 := List.range c) (List.nodup_cons.mpr ⟨m, n⟩) fun x hx => by
    rcases List.mem_cons.mp hx with rfl | hx
    · exact List.mem_range.mpr hj
    · exact List.mem_range.mpr (h x hx)
  rw [List.length_range, List.length_cons] at q
  omega
def gE (es : List Int) (j : Nat) : Int := es.getD j 0
def okAt (es : List Int) (ps : List Nat) (k : Nat) : Bool := !(ps.take k).contains (ps.getD k 0) && !(List.range es.length).any fun j => decide (gE es j < gE es (ps.getD k 0)) && !(ps.take k).contains j
def lawB (es : List Int) (ps : List Nat) : Bool := (List.range ps.length).all (okAt es ps)
def fallB (es : List Int) (ps : List Nat) : Bool := decide ps.Nodup && decide (ps.map (gE es) = es.take ps.length)
theorem okAt_iff {es : List Int} {ps : List Nat} {k : Nat} (h : k < ps.length) : okAt es ps k = true ↔ ps[k] ∉ ps.take k ∧ ∀ j < es.length, gE es j < gE es ps[k] → j ∈ ps.take k := by
  have e : ps.getD k 0 = ps[k] := by
    rw [List.getD_eq_getElem?_getD, List.getElem?_eq_getElem h]
    rfl
  unfold okAt
  rw [e, Bool.and_eq_true, Bool.not_eq_true', Bool.not_eq_true', List.any_eq_false]
  constructor
  · rintro ⟨h1, h2⟩
    refine ⟨fun m => ?_, fun j hj hlt => ?_⟩
    · rw [List.contains_iff_mem.mpr m] at h1
      cases h1
    · have := h2 j (List.mem_range.mpr hj)
      by_cases m : j ∈ ps.take k
      · exact m
      · refine absurd ?_ this
        rw [decide_eq_true hlt]
        simpa using m
  · rintro ⟨h1, h2⟩
    refine ⟨by simpa using h1, fun j hj => ?_⟩
    intro z
    rw [Bool.and_eq_true] at z
    have := h2 j (List.mem_range.mp hj) (of_decide_eq_true z.1)
    rw [List.contains_iff_mem.mpr this] at z
    cases z.2
theorem take_nodup {ps : List Nat} (n : ps.Nodup) (k : Nat) : (ps.take k).Nodup := n.sublist (List.take_sublist _ _)
theorem not_before {ps : List Nat} (n : ps.Nodup) {k : Nat} (h : k < ps.length) : ps[k] ∉ ps.take k := fun m => by
  obtain ⟨j, hj⟩ := List.mem_iff_getElem?.mp m
  rw [List.getElem?_take] at hj
  by_cases hji : j < k
  · rw [if_pos hji] at hj
    obtain ⟨hjl, ej⟩ := List.getElem?_eq_some_iff.mp hj
    exact absurd ej (List.pairwise_iff_getElem.mp n j k hjl h hji)
  · rw [if_neg hji] at hj
    cases hj
theorem before_nodup {ps : List Nat} (h : ∀ k (hk : k < ps.length), ps[k] ∉ ps.take k) : ps.Nodup :=
  List.pairwise_iff_getElem.mpr fun i j hi hj l e => h j hj (by
    refine List.mem_iff_getElem?.mpr ⟨i, ?_⟩
    rw [List.getElem?_take, if_pos l, List.getElem?_eq_getElem hi, e])
theorem falls_same {es : List Int} {ps : List Nat} (so : ∀ i j, i ≤ j → j < es.length → gE es i ≤ gE es j) (hb : ∀ p ∈ ps, p < es.length) : lawB es ps = fallB es ps := by
  have gt : ∀ k, k < es.length → es[k]? = some (gE es k) := fun k hk => by
    unfold gE
    rw [List.getD_eq_getElem?_getD, List.getElem?_eq_getElem hk]
    rfl
  have ea : lawB es ps = true ↔ ∀ k (hk : k < ps.length), ps[k] ∉ ps.take k ∧ ∀ j < es.length, gE es j < gE es ps[k] → j ∈ ps.take k := by
    unfold lawB
    rw [List.all_eq_true]
    exact ⟨fun h k hk => (okAt_iff hk).mp (h k (List.mem_range.mpr hk)), fun h k hk => (okAt_iff (List.mem_range.mp hk)).mpr (h k (List.mem_range.mp hk))⟩
  have eb : fallB es ps = true ↔ ps.Nodup ∧ ps.map (gE es) = es.take ps.length := by
    unfold fallB
    rw [Bool.and_eq_true, decide_eq_true_iff, decide_eq_true_iff]
  refine Bool.eq_iff_iff.mpr (ea.trans (Iff.trans ?_ eb.symm))
  constructor
  · intro h
    have nd := before_nodup fun k hk => (h k hk).1
    have ln : ps.length ≤ es.length := by
      have := sub_len (l2 := List.range es.length) nd fun x hx => List.mem_range.mpr (hb x hx)
      rwa [List.length_range] at this
    refine ⟨nd, List.ext_getElem? fun k => ?_⟩
    rw [List.getElem?_map, List.getElem?_take]
    by_cases hk : k < ps.length
    · rw [if_pos hk, gt k (by omega), List.getElem?_eq_getElem hk]
      show some (gE es ps[k]) = some (gE es k)
      congr 1
      have hp := hb ps[k] (List.getElem_mem hk)
      have h1 : gE es ps[k] ≤ gE es k := by
        rcases Int.lt_or_le (gE es k) (gE es ps[k]) with c | c
        · have := sub_len (l1 := List.range (k + 1)) (l2 := ps.take k) List.nodup_range fun j hj => (h k hk).2 j (by have := List.mem_range.mp hj; omega) (Int.lt_of_le_of_lt (so j k (by have := List.mem_range.mp hj; omega) (by omega)) c)
          rw [List.length_range, List.length_take] at this
          omega
        · exact c
      have h2 : gE es k ≤ gE es ps[k] := by
        rcases Int.lt_or_le (gE es ps[k]) (gE es k) with c | c
        · have all : ∀ i (hi : i < ps.length), i ≤ k → gE es ps[i] ≤ gE es ps[k] := fun i hi ik => by
            rcases Int.lt_or_le (gE es ps[k]) (gE es ps[i]) with d | d
            · have m := (h i hi).2 ps[k] hp d
              refine absurd ?_ (h k hk).1
              obtain ⟨j, hj⟩ := List.mem_iff_getElem?.mp m
              rw [List.getElem?_take] at hj
              by_cases hji : j < i
              · rw [if_pos hji] at hj
                exact List.mem_iff_getElem?.mpr ⟨j, by rw [List.getElem?_take, if_pos (by omega)]; exact hj⟩
              · rw [if_neg hji] at hj
                cases hj
            · exact d
          have := sub_len (l1 := ps.take (k + 1)) (l2 := List.range k) (take_nodup nd _) fun x hx => by
            obtain ⟨j, hj⟩ := List.mem_iff_getElem?.mp hx
            rw [List.getElem?_take] at hj
            by_cases hji : j < k + 1
            · rw [if_pos hji] at hj
              obtain ⟨hjl, ej⟩ := List.getElem?_eq_some_iff.mp hj
              have a := all j hjl (by omega)
              rw [ej] at a
              refine List.mem_range.mpr ?_
              rcases Nat.lt_or_ge x k with d | d
              · exact d
              · have := so k x d (hb x (ej ▸ List.getElem_mem hjl))
                omega
            · rw [if_neg hji] at hj
              cases hj
          rw [List.length_range, List.length_take] at this
          omega
        · exact c
      omega
    · rw [if_neg hk, List.getElem?_eq_none (by omega)]
      rfl
  · rintro ⟨nd, hm⟩ k hk
    have ln : ps.length ≤ es.length := by
      have := sub_len (l2 := List.range es.length) nd fun x hx => List.mem_range.mpr (hb x hx)
      rwa [List.length_range] at this
    have at_ : ∀ i (hi : i < ps.length), gE es ps[i] = gE es i := fun i hi => by
      have q := congrArg (fun l => l[i]?) hm
      simp only [List.getElem?_map, List.getElem?_take] at q
      rw [if_pos hi, gt i (by omega), List.getElem?_eq_getElem hi] at q
      exact Option.some.inj q
    refine ⟨not_before nd hk, fun j hj hlt => ?_⟩
    rw [at_ k hk] at hlt
    have jk : j < k := by
      rcases Nat.lt_or_ge j k with d | d
      · exact d
      · have := so k j d hj
        omega
    -- the least place with an epoch as k's
    have low : ∃ c, c ≤ k ∧ (∀ i, i < c → gE es i < gE es k) ∧ ¬ gE es c < gE es k := by
      have : ∀ m, m ≤ k → (∀ i, i < m → gE es i < gE es k) → ∃ c, c ≤ k ∧ (∀ i, i < c → gE es i < gE es k) ∧ ¬ gE es c < gE es k := by
        intro m hm
        generalize e : k - m = d
        induction d generalizing m with
        | zero =>
          intro hi
          have : m = k := by omega
          subst this
          exact ⟨m, Nat.le_refl _, hi, Int.lt_irrefl _⟩
        | succ d ih =>
          intro hi
          by_cases c : gE es m < gE es k
          · exact ih (m + 1) (by omega) (by omega) fun i h => by
              rcases Nat.lt_or_ge i m with y | y
              · exact hi i y
              · have : i = m := by omega
                rw [this]
                exact c
          · exact ⟨m, hm, hi, c⟩
      exact this 0 (Nat.zero_le _) fun i h => absurd h (Nat.not_lt_zero _)
    obtain ⟨c, hc1, hc2, hc3⟩ := low
    have jc : j < c := by
      rcases Nat.lt_or_ge j c with d | d
      · exact d
      · have := so c j d hj
        omega
    have m := all_in (l := ps.take c) (c := c) (take_nodup nd _) (fun x hx => by
      obtain ⟨i, hi⟩ := List.mem_iff_getElem?.mp hx
      rw [List.getElem?_take] at hi
      by_cases ic : i < c
      · rw [if_pos ic] at hi
        obtain ⟨il, ei⟩ := List.getElem?_eq_some_iff.mp hi
        have a := at_ i il
        rw [ei] at a
        have b := hc2 i ic
        rcases Nat.lt_or_ge x c with d | d
        · exact d
        · have := so c x d (hb x (ei ▸ List.getElem_mem il))
          omega
      · rw [if_neg ic] at hi
        cases hi) (by rw [List.length_take]; omega) jc
    obtain ⟨i, hi⟩ := List.mem_iff_getElem?.mp m
    rw [List.getElem?_take] at hi
    by_cases ic : i < c
    · rw [if_pos ic] at hi
      exact List.mem_iff_getElem?.mpr ⟨i, by rw [List.getElem?_take, if_pos (by omega)]; exact hi⟩
    · rw [if_neg ic] at hi
      cases hi
end Af

set_option Elab.async false
set_option linter.all false
set_option maxRecDepth 100000
namespace Af
open PySem PySem.Spec PyProof.Rows L2
/-! len(set(xs)) of numbers, also where some are equal -/
theorem range_get (ns : List Int) : ∀ i, i ≤ ns.length → (List.range i).map (fun i => ns.getD i 0) = ns.take i
  | 0, _ => rfl
  | i + 1, h => by
    have hlt : i < ns.length := h
    rw [List.range_succ, List.map_append, range_get ns i (Nat.le_of_lt hlt), List.take_add_one, List.getElem?_eq_getElem hlt]
    show ns.take i ++ [ns.getD i 0] = ns.take i ++ [ns[i]]
    rw [List.getD_eq_getElem?_getD, List.getElem?_eq_getElem hlt]
    rfl
theorem nodup_snoc {l : List Int} {z : Int} : (l ++ [z]).Nodup ↔ l.Nodup ∧ z ∉ l := by
  unfold List.Nodup
  rw [List.pairwise_append]
  constructor
  · rintro ⟨h1, _, h3⟩
    exact ⟨h1, fun m => h3 z m z (List.mem_singleton.mpr rfl) rfl⟩
  · rintro ⟨h1, h2⟩
    exact ⟨h1, List.pairwise_singleton _ _, fun a ha b hb e => h2 (by rw [← List.mem_singleton.mp hb, ← e]; exact ha)⟩
theorem fm_len (ns : List Int) : ∀ i, i ≤ ns.length → (firstMet (fun i => ns.getD i 0) i).length ≤ i ∧ ((firstMet (fun i => ns.getD i 0) i).length = i ↔ (ns.take i).Nodup)
  | 0, _ => ⟨Nat.le_refl _, by simp [firstMet_zero]⟩
  | i + 1, h => by
    have hlt : i < ns.length := h
    obtain ⟨h1, h2⟩ := fm_len ns i (Nat.le_of_lt hlt)
    have e1 : ns.getD i 0 = ns[i] := by
      rw [List.getD_eq_getElem?_getD, List.getElem?_eq_getElem hlt]
      rfl
    have e2 : ns.take (i + 1) = ns.take i ++ [ns[i]] := by
      rw [List.take_add_one, List.getElem?_eq_getElem hlt]
      rfl
    have ea : (firstMet (fun i => ns.getD i 0) i).any (· == ns.getD i 0) = (ns.take i).any (· == ns[i]) := by
      rw [firstMet_any, range_get ns i (Nat.le_of_lt hlt), e1]
    rw [firstMet_succ, step_length, ea, e2, nodup_snoc]
    cases c : (ns.take i).any (· == ns[i]) with
    | true =>
      rw [if_pos rfl]
      obtain ⟨y, hy, ey⟩ := List.any_eq_true.mp c
      have ey2 : y = ns[i] := eq_of_beq ey
      exact ⟨by omega, ⟨fun z => by omega, fun z => absurd (ey2 ▸ hy) z.2⟩⟩
    | false =>
      rw [if_neg (by simp)]
      have no : ns[i] ∉ ns.take i := fun m => by
        have w : (ns.take i).any (· == ns[i]) = true := List.any_eq_true.mpr ⟨_, m, beq_self_eq_true ns[i]⟩
        rw [c] at w
        cases w
      exact ⟨by omega, ⟨fun z => ⟨h2.mp (by omega), no⟩, fun z => by rw [h2.mpr z.1]⟩⟩
def tLenSetA (K : PySem.W.Frag) (ta : TE) : TE := fun σ H Q => ta σ H fun x H1 => ∃ (l : Addr) (ns : List Int), x = .ref l ∧ H1 l = some (.lst (ivs ns)) ∧ ns.length ≤ 4000 ∧ ∀ c : Nat, c ≤ ns.length → (c = ns.length ↔ ns.Nodup) → Q (.int (c : Nat)) H1
theorem pe_lenSetA {X : Cx} {a : Expr} {ta : TE} {p p2 q pos : Pos} (hg : Gl X "len") (hm : X.mg "len" = none) (hg2 : Gl X "set") (hm2 : X.mg "set" = none) (ha : PE X a ta) (hc : X.calm = true := by rfl)
    (na : starEach [a] X.env = (false, eval a X.env) :: starEach [] X.env := by rfl) : PE X (.Call (.Name "len" p) [.Call (.Name "set" p2) [a] [] q] [] pos) (tLenSetA X.K ta) := by
  refine ⟨fun pins s σ H Q I h => ?_⟩
  refine Call_ (ld_blt I hg hm boot_len ?_)
  refine PyProof.Rows.callWith_builtin1 (PyProof.Rows.args_cons ?_ rfl) rfl rfl
  refine Call_ (ld_blt I hg2 hm2 boot_set ?_)
  refine PyProof.Rows.callWith_type1 (PyProof.Rows.args_cons (thn (ha.run pins s σ H _ I h) fun v s1 ⟨x, H1, I1, r1, q1⟩ => PyProof.Rows.args_nil ?_) na) na rfl
  obtain ⟨l, ns, rfl, hq, hl, q1⟩ := q1
  cases r1
  obtain ⟨its, r, pl, hz⟩ := I1.list (SqL.of hq)
  have hlen : its.toArray.size = ns.length := by rw [List.size_toArray, ← r.length]; exact List.length_map _
  refine call_set_list (I1.ok.hd hc) pl.isList (by simpa using RZ.intsAre_vals r) (by rw [hlen]; unfold scanBound; omega) fun h' tk hS hk => ?_
  refine PyProof.Rows.args_nil ?_
  rw [hlen] at hS
  obtain ⟨f1, f2⟩ := fm_len ns ns.length (Nat.le_refl _)
  rw [List.take_length] at f2
  obtain ⟨o, es, ep, t, ho, hex, hd, _, _, _, hf, hn⟩ := hS
  have I2 : Inv X pins σ H1 { s1 with heap := h', toks := tk } := I1.kept fun b o e => hk b o (Heap.lt_size e) e
  exact call_len_set ho hex hd hf (by rw [hn] <;> omega) ⟨.int ((firstMet (fun i => ns.getD i 0) ns.length).length : Nat), H1, I2.tok _, ⟨_, by rw [hn]⟩, q1 _ f1 f2⟩
end Af

set_option Elab.async false
set_option linter.all false
set_option maxRecDepth 100000
namespace Af
open PySem PySem.Spec PyProof.Rows L2
/-! a method called where its error is caught -/
section
variable {X : Cx} {CX : CXT} {k : Nat} {f C : Addr} {fd : FuncData} {ps : List Str} {sp : Sp} {E : L2.St → XK} {m : Str} {pos apos : Pos} {e o : Expr} {es : List Expr} {ta : TE} {t : TA}
def tMethX (C : Addr) (m : Str) (sp : Sp) (E : L2.St → XK) (ta : TE) (t : TA) : TE := fun σ H Q => ta σ H fun x G => ∃ a dx fs, x = .ref a ∧ G a = some (.ins C dx fs) ∧ fs.lookup m = none ∧ t σ G fun vs G2 => sp (x :: vs) G2 Q (E σ)
theorem pe_methX {pl : Sem Bool} (he : PE X o ta) (c : Cls X.K C) (hm : Meth X.K C m f) (F : FnOk X.prog X.w X.K X.mg X.base CX k f fd ps sp) (room : Room k X.A) (b : Binds X.K fd ps []) (out : ∀ σ, PassesAt CX X σ (E σ)) (ha : PA X (e :: es) t)
    (h1 : starEach (e :: es) X.env = (false, eval e X.env) :: starEach es X.env := by rfl) (h2 : (backTo pos (starEach es X.env)).any (·.1) = false := by rfl)
    (h3 : eval (.Call (.Attribute o m apos) (e :: es) [] pos) X.env = (do
      let v ← eval o X.env
      standAt apos.atName
      let (g, own) ← holding [v] (getMethod v m pl)
      callWith pos g own (backTo pos (starEach (e :: es) X.env)) (backToKw pos (keywordEach [] X.env))) := by rfl) :
    PE X (.Call (.Attribute o m apos) (e :: es) [] pos) (tMethX C m sp E ta t) := by
  refine ⟨fun pins s σ H Q I h => PySem.W.methodCall_KW (pl := pl) (thn (he.run pins s σ H _ I h) fun u s1 z => ?_) h3⟩
  obtain ⟨x, G, I1, rx, a, dx, fs, ex, ea, l, q⟩ := z
  subst ex
  obtain rfl : u = Value.ref a := rx
  refine getmeth_ok I1 ea c hm l (PySem.W.callWith_K (first := [.ref a]) (h₀ := X.base) I.ok.mod.kin hm.kp (thn (ha.run pos pins s1 σ G _ I1 q) fun us s2 z => ?_) h1 h2)
  obtain ⟨vs, G2, I2, r, q2⟩ := z
  exact ⟨I2.kIn, run_fnS (us := .ref a :: us) (vs := .ref a :: vs) F room b (out σ) I2 (.cons rfl r) q2⟩
end
end Af

set_option Elab.async false
set_option linter.all false
set_option maxRecDepth 100000
set_option maxHeartbeats 4000000
namespace Af
open PySem L2
abbrev s_piece_epochs : Stmt := top 31
abbrev N_piece_epochs : List Str := ["plan", "piece"]
theorem sc_piece_epochs : FnScope N_piece_epochs ["plan"] (defScope s_piece_epochs) := ⟨rfl, rfl, rfl, by decide +kernel, rfl, by decide +kernel, by decide +kernel⟩

theorem eps_get : ∀ (l : List Stp) (k i : Nat), i < l.length → (eps k l)[i]? = some ((k + bars (l.take i) : Nat) : Int)
  | [], _, _, h => absurd h (Nat.not_lt_zero _)
  | a :: l, k, 0, _ => rfl
  | a :: l, k, i + 1, h => by
    show (eps (if a.isNone = true then k + 1 else k) l)[i]? = _
    rw [eps_get l _ i (Nat.lt_of_succ_lt_succ h)]
    have e : bars ((a :: l).take (i + 1)) = bars (l.take i) + (if a.isNone = true then 1 else 0) := by
      show bars (a :: l.take i) = _
      unfold bars
      rw [List.countP_cons]
    rw [e]
    cases a with
    | none =>
      show some (((k + 1 + bars (l.take i) : Nat) : Int)) = some ((k + (bars (l.take i) + 1) : Nat) : Int)
      congr 2
      omega
    | some fw => rfl
theorem pieceE_rnk {w : Int} (sts : List Stp) : pieceE sts (allP w 0 sts) = rnk sts (allP w 0 sts) := by
  unfold pieceE rnk
  refine List.map_congr_left fun p hp => ?_
  obtain ⟨j, hj1, _, hj2⟩ := allP_in hp
  rw [hj1, Int.toNat_natCast, eps_get sts 0 j (by omega), Nat.zero_add]
  rfl
theorem PlanX.px {C x ca sl ql el : Addr} {H : Hp} {pl : Pl} {xs ys : List V} (h : PlanX C x ca sl ql el H pl xs ys) : ∃ dx fs, H x = some (.ins C dx fs) ∧ fs.lookup ("epoch_of" : Str) = none := by
  obtain ⟨⟨dx, fs, a, b⟩, c⟩ := h
  obtain ⟨_, _, _, _, _, _, q⟩ := b
  exact ⟨dx, fs, a, q⟩
theorem PlanX.same {C x ca sl ql el : Addr} {H H' : Hp} {pl : Pl} {xs ys : List V} (h : PlanX C x ca sl ql el H pl xs ys) (s : Same H H') : PlanX C x ca sl ql el H' pl xs ys := by
  obtain ⟨⟨dx, fs, h1, h2⟩, h3, h4, h5⟩ := h
  exact ⟨⟨dx, fs, s _ _ h1, h2⟩, s _ _ h3, s _ _ h4, s _ _ h5⟩
theorem passN {P : Program} {w : World} {X : Cx} (hp : X.prog = P) (hw : X.w = w) (σ : L2.St) : PassesAt (L2.CX P w) X σ E0 := by
  subst hp hw
  intro pins H s e s' I c
  obtain ⟨_, _, _, _, _, _, _, _, _, _, _, _, q⟩ := c
  exact q.elim
/-- the pieces' epochs -/
def rkP (pl : Pl) : List Int := rnk pl.sts (allP pl.w 0 pl.sts)
theorem rkP_len (pl : Pl) : (rkP pl).length = (allP pl.w 0 pl.sts).length := by
  unfold rkP rnk
  rw [List.length_map]
def sp_pe (C : Addr) : Sp := fun vs H Q _ => ∃ (x : V) (pl : Pl) (sl ql el : Addr), vs = [x] ∧ PlanF C H x pl sl ql el ∧ ∀ l H', Same H H' → H l = none → H' l = some (.lst (ivs (rkP pl))) → Q (.ref l) H'
/-! is_fall told of things -/
def toN : V → Nat
  | .int i => i.toNat
  | _ => 0
def fallV (es : List Int) (H : Hp) : V → Bool
  | .ref a => match H a with
    | some (.lst xs) => xs.all (idxB es.length) && fallB es (xs.map toN)
    | _ => false
  | _ => false
def lawV (es : List Int) (H : Hp) : V → Bool
  | .ref a => match H a with
    | some (.lst xs) => xs.all (idxB es.length) && lawB es (xs.map toN)
    | _ => false
  | _ => false
theorem fallV_at {es : List Int} {H : Hp} {a : Addr} {xs : List V} (h : H a = some (.lst xs)) : fallV es H (.ref a) = (xs.all (idxB es.length) && fallB es (xs.map toN)) := by
  unfold fallV
  simp only [h]
theorem lawV_at {es : List Int} {H : Hp} {a : Addr} {xs : List V} (h : H a = some (.lst xs)) : lawV es H (.ref a) = (xs.all (idxB es.length) && lawB es (xs.map toN)) := by
  unfold lawV
  simp only [h]
theorem fallV_not {K : PySem.W.Frag} {es : List Int} {H : Hp} {x : V} {n : String} (t : Ty K H x n) (c : n ≠ "list") : fallV es H x = false := by
  cases x with
  | ref a =>
    unfold fallV
    simp only
    split
    · rename_i e3
      exact absurd (ty_is_lst t e3) c
    · rfl
  | _ => rfl
theorem lawV_not {K : PySem.W.Frag} {es : List Int} {H : Hp} {x : V} {n : String} (t : Ty K H x n) (c : n ≠ "list") : lawV es H x = false := by
  cases x with
  | ref a =>
    unfold lawV
    simp only
    split
    · rename_i e3
      exact absurd (ty_is_lst t e3) c
    · rfl
  | _ => rfl
theorem idx_all {m : Nat} : ∀ {xs : List V}, xs.all (idxB m) = true → xs = ivs ((xs.map toN).map fun p => ((p : Nat) : Int)) ∧ ∀ p ∈ xs.map toN, p < m
  | [], _ => ⟨rfl, fun _ h => by cases h⟩
  | x :: xs, h => by
    rw [List.all_cons, Bool.and_eq_true] at h
    obtain ⟨h1, h2⟩ := idx_all h.2
    cases x with
    | int i =>
      have e' : (decide (0 ≤ i) && decide (i < (m : Int))) = true := h.1
      rw [Bool.and_eq_true] at e'
      have z0 := of_decide_eq_true e'.1
      have z1 := of_decide_eq_true e'.2
      refine ⟨?_, fun p hp => ?_⟩
      · show V.int i :: xs = V.int ((i.toNat : Nat) : Int) :: _
        rw [Int.toNat_of_nonneg z0]
        exact congrArg (V.int i :: ·) h1
      · rcases List.mem_cons.mp hp with rfl | hp
        · show i.toNat < m
          omega
        · exact h2 p hp
    | _ => cases h.1
/-- a thing whose parts, if it is a list, are things -/
def Ob (K : PySem.W.Frag) (H : Hp) (v : V) : Prop := Th K H 1 v ∧ ∀ a xs, v = .ref a → H a = some (.lst xs) → xs.length ≤ 200
def sp_is_fall (K : PySem.W.Frag) (C : Addr) : Sp := fun vs H Q _ => ∃ (x v : V) (pl : Pl) (sl ql el : Addr), vs = [x, v] ∧ PlanF C H x pl sl ql el ∧ Ob K H v ∧ ∀ H', Same H H' → Q (.bl (fallV (rkP pl) H v)) H'
theorem nodup_cast {ps : List Nat} : (ps.map fun p => ((p : Nat) : Int)).Nodup ↔ ps.Nodup := by
  unfold List.Nodup
  rw [List.pairwise_map]
  constructor
  · intro h
    exact h.imp fun k e => k (by rw [e])
  · intro h
    exact h.imp fun k e => k (by omega)
section
variable {P : Program} {w : World} {K : PySem.W.Frag} {mg : Str → Option Value} {base : Heap}
theorem ok_pe {f C CE fI : Addr} {fd fdI : FuncData} (F : Fun K "piece_epochs" "piece_epochs" s_piece_epochs f fd) (T : Txt mg) (TC : PlanC K mg C) (M_eo : Meth K C "epoch_of" fI)
    (G_eo : FnOk P w K mg base (L2.CX P w) 3 fI fdI ["self", "piece"] (sp_epoch_of K C CE)) (b_eo : Binds K fdI ["self", "piece"] [])
    (P_pieces : PropC P w K mg base C "pieces" (sp_p_pieces C)) : FnOk P w K mg base CX0 4 f fd ["plan"] (sp_pe C) := by
  refine F.ok sc_piece_epochs (fun vs H Q E h => ?_) (fun cdv A outer s H vs Q E hr h => ?_)
  · obtain ⟨_, _, _, _, _, rfl, _⟩ := h
    rfl
  obtain ⟨xv, pl, sl, ql, el, rfl, pF, k⟩ := h
  obtain ⟨x, ca, xs, ys, rfl, px, hca, hxs, hys⟩ := pF.ex
  have o := pF.ok
  obtain ⟨dx, fs, hx, hM⟩ := px.px
  have yl := paired_len hys
  have pel : (pieceE pl.sts (allP pl.w 0 pl.sts)).length = ys.length := by
    unfold pieceE
    rw [List.length_map, yl]
  refine ⟨_, (pss_one (ps_ret (pe_lc (own := [("piece", 1)]) (g := (gName 1)) (tt := tYes) rfl sc_piece_epochs.nd (pi_range1 rfl T.range (pa_cons (pe_callB call_len' (by rfl) T.len (by decide +kernel) (pa_cons (pe_propC TC.cl P_pieces hr (pv 0)) pa_nil)) pa_nil)) (blkOk_by (own := [("piece", 1)]) (N := N_piece_epochs) (sc := defScope s_piece_epochs) (by decide +kernel)) (fun _ _ _ _ _ => pg_name (i := 1) sc_piece_epochs.nd rfl (Or.inl rfl)) (fun _ _ _ _ _ => pts_nil) (fun _ _ _ _ _ => (pe_methX (E := fun _ => E0) (pl := _) (pv 0) TC.cl M_eo G_eo (hr.mono (by decide)) b_eo (passN rfl rfl) (pa_cons (pv 1) pa_nil)))))), ?_⟩
  refine ⟨_, rfl, x, dx, fs, rfl, hx, x, ca, sl, ql, el, pl, xs, ys, rfl, px, fun l1 H1 s1 n1 h1 => ?_⟩
  have px1 := px.same s1
  refine ⟨l1, _, rfl, .inl h1, _, rfl, ?_, ?_, fun D hD => lc_range (lo := 0) (fun i H' => Same H1 H' ∧ H' D = some (.lst (ivs ((pieceE pl.sts (allP pl.w 0 pl.sts)).take i)))) ?_ ?_ ?_⟩
  · omega
  · have := o.pc
    omega
  · exact ⟨same_new hD, upd_same⟩
  · rintro j H8 hj ⟨s8, h8⟩
    have hj' : j < ys.length := by omega
    have px8 := px1.same s8
    refine ⟨rfl, _, rfl, x, dx, fs, rfl, s8 _ _ (s1 _ _ hx), hM, _, rfl, x, ca, sl, ql, el, pl, xs, ys, _, "int", rfl, px8, yl, ⟨.int _, by decide, fun _ _ _ e => by cases e⟩, fun j' e hv he => ?_, fun z => ?_⟩
    · have ej : j' = j := by
        have z : (0 : Int) + (j : Int) = (j' : Int) := by injection hv
        omega
      subst ej
      refine ⟨_, h8, szl (by rw [ivs_len, List.length_take]; have := o.pc; omega), same_mut s8 hD, ?_⟩
      rw [upd_same, List.take_add_one, he]
      unfold ivs
      rw [List.map_append]
      rfl
    · have : idxB (ys.length : Int) (.int (0 + (j : Int))) = true := by
        show (decide (0 ≤ 0 + (j : Int)) && decide (0 + (j : Int) < ys.length)) = true
        rw [decide_eq_true (by omega), decide_eq_true (by omega)]
        rfl
      rw [this] at z
      cases z
  rintro H8 ⟨s8, h8⟩
  rw [List.take_of_length_le (by rw [pel]; omega), pieceE_rnk] at h8
  exact k D H8 (s1.trans s8) (s1.free hD) h8
end
end Af

set_option Elab.async false
set_option linter.all false
set_option maxRecDepth 100000
set_option maxHeartbeats 4000000
namespace Af
open PySem L2
theorem op_inK {X : Cx} {K : PySem.W.Frag} (hK : X.K = K) : OpR X (compareOp .In) (rIn K false) := by
  subst hK
  exact op_in_seq
theorem op_notInK {X : Cx} {K : PySem.W.Frag} (hK : X.K = K) : OpR X (compareOp .NotIn) (rIn K true) := by
  subst hK
  exact op_notIn_seq
theorem in_ivs (z : Int) : ∀ cs : List Int, inV (.int z) (ivs cs) = cs.contains z
  | [] => rfl
  | c :: cs => by
    show (eqV (.int c) (.int z) || inV (.int z) (ivs cs)) = _
    rw [in_ivs z cs, List.contains_cons]
    congr 1
    show (c == z) = (z == c)
    exact BEq.comm
theorem flat_ivs (cs : List Int) : (ivs cs).all flatV = true := List.all_eq_true.mpr fun x hx => by
  obtain ⟨z, _, rfl⟩ := List.mem_map.mp hx
  rfl
/-- numbers that are no less than nought, as things -/
def nvs (ps : List Nat) : List V := ivs (ps.map fun p => ((p : Nat) : Int))
theorem nvs_len (ps : List Nat) : (nvs ps).length = ps.length := by
  unfold nvs
  rw [ivs_len, List.length_map]
theorem nvs_get {ps : List Nat} {k : Nat} (h : k < ps.length) : (nvs ps)[k]? = some (.int ((ps[k] : Nat) : Int)) := by
  unfold nvs ivs
  rw [List.getElem?_map, List.getElem?_map, List.getElem?_eq_getElem h]
  rfl
theorem in_nvs (z : Nat) : ∀ ps : List Nat, inV (.int (z : Int)) (nvs ps) = ps.contains z
  | [] => rfl
  | c :: cs => by
    show (eqV (.int (c : Int)) (.int (z : Int)) || inV (.int (z : Int)) (nvs cs)) = _
    rw [in_nvs z cs, List.contains_cons]
    congr 1
    show ((c : Int) == (z : Int)) = (z == c)
    rw [Bool.eq_iff_iff, beq_iff_eq, beq_iff_eq]
    omega
theorem nvs_take (ps : List Nat) (k : Nat) : (nvs ps).take k = nvs (ps.take k) := by
  unfold nvs ivs
  rw [← List.map_take, ← List.map_take]
theorem shl_ints (ns : List Int) : SeqAt.shaped (.list (dvs ns)) = true := sh_ints ns
theorem eqvAll_dvs : ∀ a b : List Int, PyData.eqvAll (dvs a) (dvs b) = decide (a = b)
  | [], [] => rfl
  | [], _ :: _ => rfl
  | _ :: _, [] => rfl
  | x :: a, y :: b => by
    show (PyData.eqv (.int x) (.int y) && PyData.eqvAll (dvs a) (dvs b)) = _
    rw [eqvAll_dvs a b]
    have e : PyData.eqv (.int x) (.int y) = decide (x = y) := rfl
    rw [e, Bool.eq_iff_iff, Bool.and_eq_true, decide_eq_true_iff, decide_eq_true_iff, decide_eq_true_iff, List.cons.injEq]
theorem eqv_dvs (a b : List Int) : PyData.eqv (.list (dvs a)) (.list (dvs b)) = decide (a = b) := eqvAll_dvs a b
section
variable {P : Program} {w : World} {K : PySem.W.Frag} {mg : Str → Option Value} {base : Heap}
end
end Af

set_option Elab.async false
set_option linter.all false
namespace Af
open PySem L2
theorem lawB_iff {es : List Int} {ps : List Nat} : lawB es ps = true ↔ ∀ k (hk : k < ps.length), ps[k] ∉ ps.take k ∧ ∀ j < es.length, gE es j < gE es ps[k] → j ∈ ps.take k := by
  unfold lawB
  rw [List.all_eq_true]
  exact ⟨fun h k hk => (okAt_iff hk).mp (h k (List.mem_range.mpr hk)), fun h k hk => (okAt_iff (List.mem_range.mp hk)).mpr (h k (List.mem_range.mp hk))⟩
theorem mem_take {ps : List Nat} {k j : Nat} : j ∈ ps.take k ↔ ∃ i, i < k ∧ ∃ h : i < ps.length, ps[i] = j := by
  constructor
  · intro m
    obtain ⟨i, hi⟩ := List.mem_iff_getElem?.mp m
    rw [List.getElem?_take] at hi
    by_cases c : i < k
    · rw [if_pos c] at hi
      obtain ⟨h, e⟩ := List.getElem?_eq_some_iff.mp hi
      exact ⟨i, c, h, e⟩
    · rw [if_neg c] at hi
      cases hi
  · rintro ⟨i, c, h, e⟩
    exact List.mem_iff_getElem?.mpr ⟨i, by rw [List.getElem?_take, if_pos c, List.getElem?_eq_getElem h, e]⟩
/-- a barrier behind the first c pieces shuts it -/
def shutB (ps : List Nat) (c : Nat) : Bool := (ps.take c).any fun p => decide (c ≤ p)
theorem shut_same {es es' : List Int} {ps : List Nat} {c : Nat} (so : ∀ i j, i ≤ j → j < es.length → gE es i ≤ gE es j) (ln : es'.length = es.length) (hb : ∀ p ∈ ps, p < es.length) (hc : c ≤ es.length)
    (he : ∀ j < es.length, gE es' j = gE es j + (if c ≤ j then 1 else 0)) (hf : lawB es ps = true) : lawB es' ps = !shutB ps c := by
  have hf' := lawB_iff.mp hf
  have nd := before_nodup fun k hk => (hf' k hk).1
  have e1 : shutB ps c = false ↔ ∀ i, i < c → ∀ h : i < ps.length, ps[i] < c := by
    unfold shutB
    rw [List.any_eq_false]
    constructor
    · intro h i ic il
      have := h ps[i] (mem_take.mpr ⟨i, ic, il, rfl⟩)
      have : ¬ c ≤ ps[i] := fun z => this (decide_eq_true z)
      omega
    · intro h p hp z
      obtain ⟨i, ic, il, rfl⟩ := mem_take.mp hp
      have := h i ic il
      have := of_decide_eq_true z
      omega
  rw [Bool.eq_iff_iff, Bool.not_eq_true', e1, lawB_iff]
  constructor
  · intro h i ic il
    rcases Nat.lt_or_ge ps[i] c with d | d
    · exact d
    · have hp := hb _ (List.getElem_mem il)
      have := sub_len (l1 := List.range c) (l2 := ps.take i) List.nodup_range fun j hj => by
        have jc := List.mem_range.mp hj
        refine (h i il).2 j (by omega) ?_
        rw [he j (by omega), he _ hp, if_neg (by omega), if_pos d]
        have := so j ps[i] (by omega) hp
        omega
      rw [List.length_range, List.length_take] at this
      omega
  · intro h k hk
    refine ⟨(hf' k hk).1, fun j hj hlt => ?_⟩
    rw [ln] at hj
    have hp := hb _ (List.getElem_mem hk)
    rcases Int.lt_or_le (gE es j) (gE es ps[k]) with d | d
    · exact (hf' k hk).2 j hj d
    · rw [he j hj, he _ hp] at hlt
      have jc : j < c := by
        rcases Nat.lt_or_ge j c with x | x
        · exact x
        · rw [if_pos x] at hlt
          split at hlt <;> omega
      have pc : c ≤ ps[k] := by
        rcases Nat.lt_or_ge ps[k] c with x | x
        · rw [if_neg (show ¬ c ≤ ps[k] by omega)] at hlt
          split at hlt <;> omega
        · exact x
      have kc : c ≤ k := by
        rcases Nat.lt_or_ge k c with x | x
        · have := h k x hk
          omega
        · exact x
      have m := all_in (l := ps.take c) (c := c) (take_nodup nd _) (fun x hx => by
        obtain ⟨i, ic, il, rfl⟩ := mem_take.mp hx
        exact h i ic il) (by rw [List.length_take]; omega) jc
      obtain ⟨i, ic, il, e⟩ := mem_take.mp m
      exact mem_take.mpr ⟨i, by omega, il, e⟩
/-- a fall goes on with a piece of the least epoch that is left -/
theorem law_snoc {es : List Int} {ps : List Nat} {p : Nat} (h : lawB es ps = true) (np : p ∉ ps) (low : ∀ j < es.length, j ∉ ps → gE es p ≤ gE es j) : lawB es (ps ++ [p]) = true := by
  rw [lawB_iff] at h ⊢
  intro k hk
  rw [List.length_append, List.length_singleton] at hk
  rcases Nat.lt_or_ge k ps.length with d | d
  · rw [List.getElem_append_left d, List.take_append_of_le_length (by omega)]
    exact h k d
  · have e : k = ps.length := by omega
    subst e
    rw [List.getElem_append_right (Nat.le_refl _)]
    have e2 : (ps ++ [p]).take ps.length = ps := List.take_left
    rw [e2]
    simp only [Nat.sub_self, List.getElem_cons_zero]
    refine ⟨np, fun j hj hlt => ?_⟩
    by_cases m : j ∈ ps
    · exact m
    · have := low j hj m
      omega
end Af

set_option Elab.async false
set_option linter.all false
set_option maxRecDepth 100000
set_option maxHeartbeats 4000000
namespace Af
open PySem L2
theorem gE_get {es : List Int} {j : Nat} (h : j < es.length) : (ivs es)[j]? = some (.int (gE es j)) := by
  rw [ivs_get h]
  unfold gE
  rw [List.getD_eq_getElem?_getD, List.getElem?_eq_getElem h]
  rfl
theorem allP_up {w : Int} : ∀ (l : List Stp) (i : Nat), (allP w i l).Pairwise fun p p' => p.1 ≤ p'.1
  | [], _ => .nil
  | a :: l, i => by
    show (oneP w i a ++ allP w (i + 1) l).Pairwise _
    have one : ∀ p ∈ oneP w i a, p.1 = (i : Int) := fun p hp => by
      cases a with
      | none => cases hp
      | some fw =>
        obtain ⟨f, ws⟩ := fw
        obtain ⟨y, hy, rfl⟩ := List.mem_map.mp hp
        rfl
    refine List.pairwise_append.mpr ⟨?_, allP_up l (i + 1), fun p hp p' hp' => ?_⟩
    · refine List.pairwise_iff_getElem.mpr fun x y hx hy _ => ?_
      rw [one _ (List.getElem_mem hx), one _ (List.getElem_mem hy)]
      exact Int.le_refl _
    · obtain ⟨j, hj1, hj2, _⟩ := allP_in hp'
      rw [one p hp, hj1]
      omega
theorem bars_up (l : List Stp) {a b : Nat} (h : a ≤ b) : bars (l.take a) ≤ bars (l.take b) := by
  unfold bars
  have : l.take a = (l.take b).take a := by rw [List.take_take, Nat.min_eq_left h]
  rw [this]
  exact (List.take_sublist _ _).countP_le
theorem rkP_up (pl : Pl) : ∀ i j, i ≤ j → j < (rkP pl).length → gE (rkP pl) i ≤ gE (rkP pl) j := fun i j ij hj => by
  have hi : i < (rkP pl).length := by omega
  unfold gE
  rw [List.getD_eq_getElem?_getD, List.getD_eq_getElem?_getD, List.getElem?_eq_getElem hi, List.getElem?_eq_getElem hj]
  show (rkP pl)[i] ≤ (rkP pl)[j]
  have pw : (rkP pl).Pairwise (· ≤ ·) := by
    unfold rkP rnk
    refine List.pairwise_map.mpr ((allP_up pl.sts 0).imp fun {p p'} h => ?_)
    have := bars_up pl.sts (a := p.1.toNat) (b := p'.1.toNat) (by omega)
    omega
  rcases Nat.lt_or_ge i j with d | d
  · exact List.pairwise_iff_getElem.mp pw i j hi hj d
  · have e : i = j := by omega
    subst e
    exact Int.le_refl _
theorem fall_law {pl : Pl} {H : Hp} {v : V} : fallV (rkP pl) H v = lawV (rkP pl) H v := by
  cases v with
  | ref a =>
    unfold fallV lawV
    simp only
    split
    · rename_i xs e
      cases c : xs.all (idxB (rkP pl).length) with
      | false => rfl
      | true =>
        rw [Bool.true_and, Bool.true_and]
        exact (falls_same (rkP_up pl) (idx_all c).2).symm
    · rfl
  | _ => rfl
end Af

set_option Elab.async false
set_option linter.all false
set_option maxRecDepth 100000
set_option maxHeartbeats 4000000
namespace Af
open PySem L2
abbrev s_l_nexts : Stmt := top 77
abbrev N_l_nexts : List Str := ["_law_ranks_here", "_law_some_here", "_law_rest", "_law_low", "_law_k"]
theorem sc_l_nexts : FnScope N_l_nexts ["_law_ranks_here", "_law_some_here"] (defScope s_l_nexts) := ⟨rfl, rfl, rfl, by decide +kernel, rfl, by decide +kernel, by decide +kernel⟩

abbrev s_l_fall : Stmt := top 78
abbrev N_l_fall : List Str := ["_law_pen_here", "_law_plan_here", "_law_ranks_here", "_law_found", "_law_turn", "_law_some_here"]
theorem sc_l_fall : FnScope N_l_fall ["_law_pen_here", "_law_plan_here"] (defScope s_l_fall) := ⟨rfl, rfl, rfl, by decide +kernel, rfl, by decide +kernel, by decide +kernel⟩

theorem cr_minKK {X : Cx} {K : PySem.W.Frag} (hK : X.K = K) (hc : X.calm = true) : CallR X (.builtin "min") (rMin K) := by
  subst hK
  exact cr_min hc
def scB : Scope := { kind := ScopeKind.function, names := [(".0", NameKind.local), ("_law_k", NameKind.local), ("min", NameKind.globalImplicit), ("_law_ranks_here", NameKind.cell), ("_law_rest", NameKind.cell)], isGenerator := false, isCoroutine := false }
theorem pi_listK {X : Cx} {K : PySem.W.Frag} {e tg : Expr} {te : TE} (hK : X.K = K) (he : PE X e te) : PI X tg e (iList K te) := by
  subst hK
  exact pi_list he
def restU (fs : List Nat) (i : Nat) : List Nat := (List.range i).filter fun k => !fs.contains k
theorem restU_succ (fs : List Nat) (i : Nat) : restU fs (i + 1) = restU fs i ++ (if fs.contains i then [] else [i]) := by
  unfold restU
  rw [List.range_succ, List.filter_append]
  congr 1
  cases c : fs.contains i with
  | true =>
    show List.filter _ [i] = _
    rw [List.filter_cons, c]
    rfl
  | false =>
    show List.filter _ [i] = _
    rw [List.filter_cons, c]
    rfl
theorem restU_in {fs : List Nat} {i p : Nat} (h : p ∈ restU fs i) : p < i := List.mem_range.mp (List.mem_filter.mp h).1
theorem restU_len (fs : List Nat) (i : Nat) : (restU fs i).length ≤ i := by
  have := List.length_filter_le (fun k => !fs.contains k) (List.range i)
  rw [List.length_range] at this
  exact this
theorem restU_some {fs : List Nat} {i : Nat} (h : fs.length < i) : restU fs i ≠ [] := fun e => by
  have := sub_len (l1 := List.range i) (l2 := fs) List.nodup_range fun x hx => by
    by_cases c : x ∈ fs
    · exact c
    · have : x ∈ restU fs i := List.mem_filter.mpr ⟨hx, by simpa using c⟩
      rw [e] at this
      cases this
  rw [List.length_range] at this
  omega
theorem least {α : Type} (f : α → Int) : ∀ l : List α, l ≠ [] → ∃ x ∈ l, ∀ q ∈ l, f x ≤ f q
  | [], h => absurd rfl h
  | [x], _ => ⟨x, List.mem_cons_self, fun q hq => by rw [List.mem_singleton.mp hq]; exact Int.le_refl _⟩
  | x :: y :: l, _ => by
    obtain ⟨z, hz, hle⟩ := least f (y :: l) (by simp)
    by_cases c : f x ≤ f z
    · refine ⟨x, List.mem_cons_self, fun q hq => ?_⟩
      rcases List.mem_cons.mp hq with rfl | hq
      · exact Int.le_refl _
      · exact Int.le_trans c (hle q hq)
    · refine ⟨z, List.mem_cons_of_mem _ hz, fun q hq => ?_⟩
      rcases List.mem_cons.mp hq with rfl | hq
      · omega
      · exact hle q hq
def sp_nexts : Sp := fun vs H Q _ => ∃ (r s : Addr) (es : List Int) (fs : List Nat), vs = [.ref r, .ref s] ∧ H r = some (.lst (ivs es)) ∧ H s = some (.lst (nvs fs)) ∧ es.length ≤ 40 ∧ fs.length < es.length ∧ (∀ j < es.length, gE es j ≤ 98) ∧
  ∀ l H' ps, Same H H' → H l = none → H' l = some (.lst (nvs ps)) → ps ≠ [] → (∀ p ∈ ps, p < es.length ∧ p ∉ fs ∧ ∀ j < es.length, j ∉ fs → gE es p ≤ gE es j) → ps.length ≤ 40 → Q (.ref l) H'
theorem restU_mem {fs : List Nat} {i p : Nat} : p ∈ restU fs i ↔ p < i ∧ p ∉ fs := by
  unfold restU
  rw [List.mem_filter, List.mem_range]
  constructor
  · rintro ⟨h1, h2⟩
    exact ⟨h1, by simpa using h2⟩
  · rintro ⟨h1, h2⟩
    exact ⟨h1, by simpa using h2⟩
theorem nvs_app (a b : List Nat) : nvs (a ++ b) = nvs a ++ nvs b := by
  unfold nvs ivs
  rw [List.map_append, List.map_append]
/-- what comes next, exactly -/
def nextL (es : List Int) (fs : List Nat) : List Nat := (restU fs es.length).filter fun p => (restU fs es.length).all fun q => decide (gE es p ≤ gE es q)
theorem nextL_mem {es : List Int} {fs : List Nat} {p : Nat} : p ∈ nextL es fs ↔ p < es.length ∧ p ∉ fs ∧ ∀ j < es.length, j ∉ fs → gE es p ≤ gE es j := by
  unfold nextL
  rw [List.mem_filter, restU_mem, List.all_eq_true]
  constructor
  · rintro ⟨⟨h1, h2⟩, h3⟩
    exact ⟨h1, h2, fun j hj hn => of_decide_eq_true (h3 j (restU_mem.mpr ⟨hj, hn⟩))⟩
  · rintro ⟨h1, h2, h3⟩
    exact ⟨⟨h1, h2⟩, fun q hq => decide_eq_true (h3 q (restU_mem.mp hq).1 (restU_mem.mp hq).2)⟩
theorem nextL_len (es : List Int) (fs : List Nat) : (nextL es fs).length ≤ es.length := Nat.le_trans (List.length_filter_le _ _) (restU_len _ _)
theorem nextL_some {es : List Int} {fs : List Nat} (h : fs.length < es.length) : nextL es fs ≠ [] := by
  obtain ⟨x, hx, hm⟩ := least (gE es) _ (restU_some h)
  have : x ∈ nextL es fs := List.mem_filter.mpr ⟨hx, List.all_eq_true.mpr fun q hq => decide_eq_true (hm q hq)⟩
  exact List.ne_nil_of_mem this
def sp_nextsX : Sp := fun vs H Q _ => ∃ (r s : Addr) (es : List Int) (fs : List Nat), vs = [.ref r, .ref s] ∧ H r = some (.lst (ivs es)) ∧ H s = some (.lst (nvs fs)) ∧ es.length ≤ 40 ∧ (∀ j < es.length, gE es j ≤ 98) ∧
  ∀ l H', Same H H' → H l = none → H' l = some (.lst (nvs (nextL es fs))) → Q (.ref l) H'
section
variable {P : Program} {w : World} {K : PySem.W.Frag} {mg : Str → Option Value} {base : Heap}
theorem ok_nexts {f : Addr} {fd : FuncData} (F : Fun K "_law_nexts" "_law_nexts" s_l_nexts f fd) (T : Txt mg) : FnOk P w K mg base CX0 1 f fd ["_law_ranks_here", "_law_some_here"] sp_nextsX := by
  refine F.ok sc_l_nexts (fun vs H Q E h => ?_) (fun cdv A outer s H vs Q E hr h => ?_)
  · obtain ⟨_, _, _, _, rfl, _⟩ := h
    rfl
  obtain ⟨r, s, es, fs, rfl, hr1, hs1, el, e64, k⟩ := h
  refine ⟨_, (pss_cons (ps_setLc (i := 2) (own := [("_law_k", 4)]) (g := (gName 4)) rfl sc_l_nexts.nd rfl rfl (sw_true rfl rfl rfl (by decide +kernel)) (pi_range1 rfl T.range (pa_cons (pe_callB call_len' (by rfl) T.len (by decide +kernel) (pa_cons (pv 0) pa_nil)) pa_nil)) (blkOk_by (own := [("_law_k", 4)]) (N := N_l_nexts) (sc := defScope s_l_nexts) (by decide +kernel)) (fun _ _ _ _ _ => pg_name (i := 4) sc_l_nexts.nd rfl (Or.inl rfl)) (fun _ _ _ _ _ => (pts_one (pt_cmpR (op_notInK (K := K) rfl) (pv 4) (pv 1) (by rfl)))) (fun _ _ _ _ _ => (pv 4)))
    (pss_cons (ps_set (i := 3) sc_l_nexts.nd rfl (Or.inr rfl) (pe_callB (cr_min rfl) (by rfl) T.min (by decide +kernel) (pa_cons (pe_op op_cat' (pe_lc (own := [("_law_k", 4)]) (g := (gName 4)) (tt := tYes) rfl sc_l_nexts.nd (pi_list (pv 2)) (blkOk_by (own := [("_law_k", 4)]) (N := N_l_nexts) (sc := defScope s_l_nexts) (by decide +kernel)) (fun _ _ _ _ _ => pg_name (i := 4) sc_l_nexts.nd rfl (Or.inl rfl)) (fun _ _ _ _ _ => pts_nil) (fun _ _ _ _ _ => (pe_ix ix_seq' (pv 0) (pv 4) (fun _ _ => rfl)))) (pe_lst' (pa_cons pe_int pa_nil))) pa_nil)))
    (pss_one (ps_ret (pe_lc (own := [("_law_k", 4)]) (g := (gName 4)) rfl sc_l_nexts.nd (pi_list (pv 2)) (blkOk_by (own := [("_law_k", 4)]) (N := N_l_nexts) (sc := defScope s_l_nexts) (by decide +kernel)) (fun _ _ _ _ _ => pg_name (i := 4) sc_l_nexts.nd rfl (Or.inl rfl)) (fun _ _ _ _ _ => (pts_one (pt_cmpR op_eq (pe_ix ix_seq' (pv 0) (pv 4) (fun _ _ => rfl)) (pv 3) (nomark _)))) (fun _ _ _ _ _ => (pv 4))))))), ?_⟩
  refine ⟨_, rfl, r, _, rfl, .inl hr1, _, rfl, by omega, by rw [ivs_len]; omega, fun D hD => lc_range (lo := 0) (fun i H' => Same H H' ∧ H' D = some (.lst (nvs (restU fs i)))) ?_ ?_ ?_⟩
  · exact ⟨same_new hD, upd_same⟩
  · rintro i H' hi ⟨s1, h1⟩
    rw [ivs_len] at hi
    have e : inV (.int (0 + (i : Int))) (nvs fs) = fs.contains i := by
      rw [show (0 : Int) + (i : Int) = ((i : Nat) : Int) by omega, in_nvs]
    refine ⟨rfl, _, rfl, _, rfl, s, _, rfl, .inl (SqL.of (s1 _ _ hs1)), rfl, flat_ivs _, _, rfl, ?_⟩
    show if (!inV (.int (0 + (i : Int))) (nvs fs)) = true then _ else _
    rw [e]
    cases c : fs.contains i with
    | false =>
      have rs := restU_succ fs i
      rw [c, if_neg (by decide)] at rs
      refine ⟨_, rfl, _, h1, szl (by rw [nvs_len]; have := restU_len fs i; omega), same_mut s1 hD, ?_⟩
      rw [upd_same, rs, nvs_app, show (0 : Int) + (i : Int) = ((i : Nat) : Int) by omega]
      rfl
    | true =>
      have rs := restU_succ fs i
      rw [c, if_pos rfl, List.append_nil] at rs
      exact ⟨s1, by rw [rs]; exact h1⟩
  · rintro H1 ⟨s1, h1⟩
    have h1' : H1 D = some (.lst (nvs (restU fs es.length))) := by
      rw [h1, ivs_len]
      rfl
    generalize hrs : restU fs es.length = rs at h1'
    have rin : ∀ p ∈ rs, p < es.length := fun p hp => restU_in (hrs ▸ hp)
    have rln : rs.length ≤ 40 := by
      have := restU_len fs es.length
      rw [hrs] at this
      omega
    have hr2 := s1 _ _ hr1
    refine ⟨_, rfl, D, rfl, ⟨_, SqL.of h1'⟩, fun D3 hD3 => lc_list (K := K) (a := D) (xs := nvs rs) (fun j H'' => Same H1 H'' ∧ H'' D3 = some (.lst (ivs ((rs.map (gE es)).take j)))) ?_ ?_ ?_ ?_⟩
    · exact ⟨same_new hD3, upd_same⟩
    · rintro j H'' _ ⟨s3, _⟩
      exact SqL.of (s3 _ _ h1')
    · rintro j y H'' hy ⟨s3, h3⟩
      have jl : j < rs.length := by rw [← nvs_len]; exact (List.getElem?_eq_some_iff.mp hy).1
      rw [nvs_get jl] at hy
      cases hy
      have hlt2 := rin _ (List.getElem_mem jl)
      refine ⟨rfl, _, rfl, _, rfl, r, _, _, _, rfl, rfl, .inl (s3 _ _ hr2), atI_nat (gE_get hlt2), _, h3, szl (by rw [ivs_len, List.length_take, List.length_map]; omega), same_mut s3 hD3, ?_⟩
      rw [upd_same, List.take_add_one, List.getElem?_map, List.getElem?_eq_getElem jl]
      unfold ivs
      rw [List.map_append]
      rfl
    rintro H3 ⟨s3, h3⟩
    rw [List.take_of_length_le (by rw [List.length_map, nvs_len]; omega)] at h3
    refine ⟨szr, fun o9 H4 n4 s4 h4 => ?_⟩
    refine ⟨D3, o9, _, _, rfl, rfl, s4 _ _ h3, h4, sz (by rw [ivs_len, List.length_map]; show _ + 1 ≤ _; omega), fun o8 H5 n5 s5 h5 => ?_⟩
    have h5' : H5 o8 = some (.lst (ivs (rs.map (gE es) ++ [99]))) := by
      rw [h5]
      unfold ivs
      rw [List.map_append]
      rfl
    refine ⟨o8, _, rfl, SqL.of h5', by rw [List.length_append]; show 0 < _ + 1; omega, fun m hm hle => ?_⟩
    have hlow : ∀ p ∈ rs, (decide (gE es p = m)) = rs.all fun q => decide (gE es p ≤ gE es q) := fun p hp => by
      rw [Bool.eq_iff_iff, decide_eq_true_iff, List.all_eq_true]
      constructor
      · intro z q hq
        have := hle (gE es q) (List.mem_append.mpr (.inl (List.mem_map.mpr ⟨q, hq, rfl⟩)))
        exact decide_eq_true (by omega)
      · intro z
        have l1 := hle (gE es p) (List.mem_append.mpr (.inl (List.mem_map.mpr ⟨p, hp, rfl⟩)))
        have l2 := e64 p (rin p hp)
        rcases List.mem_append.mp hm with hm | hm
        · obtain ⟨q, hq, eq⟩ := List.mem_map.mp hm
          have := of_decide_eq_true (z q hq)
          omega
        · rw [List.mem_singleton.mp hm] at l1
          omega
    have fin : rs.filter (fun p => decide (gE es p = m)) = nextL es fs := by
      unfold nextL
      rw [hrs]
      exact List.filter_congr hlow
    have T5 := s3.trans (s4.trans s5)
    have hD5 := T5 _ _ h1'
    have hr5 := T5 _ _ hr2
    refine ⟨_, rfl, D, rfl, ⟨_, SqL.of hD5⟩, fun D2 hD2 => lc_list (K := K) (a := D) (xs := nvs rs) (fun i H' => Same H5 H' ∧ H' D2 = some (.lst (nvs ((rs.take i).filter fun p => decide (gE es p = m))))) ?_ ?_ ?_ ?_⟩
    · exact ⟨same_new hD2, upd_same⟩
    · rintro i H' _ ⟨s2, _⟩
      exact SqL.of (s2 _ _ hD5)
    · rintro i y H' hy ⟨s2, h2⟩
      have il : i < rs.length := by rw [← nvs_len]; exact (List.getElem?_eq_some_iff.mp hy).1
      rw [nvs_get il] at hy
      cases hy
      have hlt := rin _ (List.getElem_mem il)
      have tk : (rs.take (i + 1)).filter (fun p => decide (gE es p = m)) = (rs.take i).filter (fun p => decide (gE es p = m)) ++ (if gE es rs[i] = m then [rs[i]] else []) := by
        rw [List.take_add_one, List.getElem?_eq_getElem il, List.filter_append]
        congr 1
        by_cases c : gE es rs[i] = m
        · rw [if_pos c]; simp [c]
        · rw [if_neg c]; simp [c]
      have fl := List.length_filter_le (fun p => decide (gE es p = m)) (rs.take i)
      rw [List.length_take] at fl
      refine ⟨rfl, _, rfl, _, rfl, r, _, _, _, rfl, rfl, .inl (s2 _ _ hr5), atI_nat (gE_get hlt), _, rfl, rfl, _, rfl, ite2 (fun y => ?_) (fun y => ?_)⟩
      · have y' : gE es rs[i] = m := V.int.inj (of_decide_eq_true y)
        rw [if_pos y'] at tk
        refine ⟨_, rfl, _, h2, szl (by rw [nvs_len]; omega), same_mut s2 hD2, ?_⟩
        rw [upd_same, tk, nvs_app]
        rfl
      · have y' : ¬ gE es rs[i] = m := fun z => y (decide_eq_true (by rw [z]))
        rw [if_neg y', List.append_nil] at tk
        exact ⟨s2, by rw [tk]; exact h2⟩
    · rintro H2 ⟨s2, h2⟩
      rw [nvs_len, List.take_length, fin] at h2
      exact k D2 H2 (s1.trans (T5.trans s2)) ((s1.trans T5).free hD2) h2
theorem weak_nexts {f : Addr} {fd : FuncData} (F : FnOk P w K mg base CX0 1 f fd ["_law_ranks_here", "_law_some_here"] sp_nextsX) : FnOk P w K mg base CX0 1 f fd ["_law_ranks_here", "_law_some_here"] sp_nexts := F.imp fun vs H Q E h => by
  obtain ⟨r, s, es, fs, e, h1, h2, h3, h4, h5, k⟩ := h
  exact ⟨r, s, es, fs, e, h1, h2, h3, h5, fun l H' s' n h' => k l H' _ s' n h' (nextL_some h4) (fun p hp => nextL_mem.mp hp) (Nat.le_trans (nextL_len es fs) h3)⟩
end
end Af

set_option Elab.async false
set_option linter.all false
set_option maxRecDepth 100000
set_option maxHeartbeats 4000000
namespace Af
open PySem L2
def sp_fall : Sp := fun vs H Q _ => ∃ (q : Pn) (m : Nat) (a ca sa : Addr) (sp : Int) (xs : List V) (sts : List Stp), vs = [.ref q.p, .ref a] ∧ Pen q m H ∧ m + 100 < 1000000000000 ∧ H a = some (.tup [.ref ca, .int sp, .ref sa]) ∧ H sa = some (.lst xs) ∧ Paired (StepV H) xs sts ∧ 0 < sp ∧ xs.length ≤ 90 ∧
  (∀ f ws, some (f, ws) ∈ sts → ws.length ≤ 100) ∧ (allP sp 0 sts).length ≤ 40 ∧ ∀ l H' ps, Go q (m + 50) H H' → H l = none → H' l = some (.lst (nvs ps)) → ps.length ≤ 40 → (∀ p ∈ ps, p < (allP sp 0 sts).length) → lawB (rnk sts (allP sp 0 sts)) ps = true → Q (.ref l) H'
section
variable {P : Program} {w : World} {K : PySem.W.Frag} {mg : Str → Option Value} {base : Heap}
theorem ok_fall {f : Addr} {fd : FuncData} (F : Fun K "_law_fall" "_law_fall" s_l_fall f fd) (T : Txt mg) (c_l_draw : Cal P w K mg base 2 "_law_draw" ["_law_pen_here", "_law_under"] sp_draw) (c_l_ranks : Cal P w K mg base 3 "_law_ranks" ["_law_plan_here"] sp_ranks)
    (c_l_nexts : Cal P w K mg base 1 "_law_nexts" ["_law_ranks_here", "_law_some_here"] sp_nexts) : FnOk P w K mg base CX0 4 f fd ["_law_pen_here", "_law_plan_here"] sp_fall := by
  refine F.ok sc_l_fall (fun vs H Q E h => ?_) (fun cdv A outer s H vs Q E hr h => ?_)
  · obtain ⟨_, _, _, _, _, _, _, _, rfl, _⟩ := h
    rfl
  obtain ⟨q, m, a, ca, sa, sp, xs, sts, rfl, pn, hm, ha, hsa, hst, hsp, hxl, hw, h40, k⟩ := h
  have e64 : ∀ j < (rnk sts (allP sp 0 sts)).length, gE (rnk sts (allP sp 0 sts)) j ≤ 98 := fun j hj => by
    have hm : gE (rnk sts (allP sp 0 sts)) j ∈ rnk sts (allP sp 0 sts) := by
      unfold gE
      rw [List.getD_eq_getElem?_getD, List.getElem?_eq_getElem hj]
      exact List.getElem_mem hj
    obtain ⟨p, _, ep⟩ := List.mem_map.mp hm
    rw [← ep]
    have := List.countP_le_length (p := fun (x : Stp) => x.isNone) (l := sts.take p.1.toNat)
    have h2 : (sts.take p.1.toNat).length ≤ sts.length := by rw [List.length_take]; omega
    have h3 := paired_len hst
    show ((List.countP _ _ : Nat) : Int) ≤ 98
    omega
  have esl : (rnk sts (allP sp 0 sts)).length = (allP sp 0 sts).length := by unfold rnk; rw [List.length_map]
  generalize hes : rnk sts (allP sp 0 sts) = es at k e64 esl
  have rl : es.length ≤ 40 := by rw [← hes]; unfold rnk; rw [List.length_map]; exact h40
  refine ⟨_, (pss_cons (ps_par (i := 2) (j := 3) rfl sc_l_fall.nd rfl rfl (by decide) rfl rfl (pa_cons (pe_cal c_l_ranks hr (pa_cons (pv 1) pa_nil)) (pa_cons (pe_lst' pa_nil) pa_nil)) (by rfl))
    (pss_cons (ps_for PassesOwn.never rfl (pi_range1 rfl T.range (pa_cons (pe_cal c_l_draw hr (pa_cons (pv 0) (pa_cons (pe_op op_add (pe_callB call_len' (by rfl) T.len (by decide +kernel) (pa_cons (pv 2) pa_nil)) pe_int) pa_nil))) pa_nil)) (pg_name (i := 4) sc_l_fall.nd rfl (Or.inl rfl))
      (pss_cons (ps_set (i := 5) sc_l_fall.nd rfl (Or.inl rfl) (pe_cal c_l_nexts hr (pa_cons (pv 2) (pa_cons (pv 3) pa_nil))))
    (pss_one (ps_expr (pe_bm PySem.F.plainAttrs_list PySem.F.slot_list_append PySem.F.type_list_append mt_append (pv 3) (pa_cons (pe_ix ix_seq' (pv 5) (pe_cal c_l_draw hr (pa_cons (pv 0) (pa_cons (pe_callB call_len' (by rfl) T.len (by decide +kernel) (pa_cons (pv 5) pa_nil)) pa_nil))) (fun _ _ => rfl)) pa_nil))))))
    (pss_one (ps_ret (pv 3))))), ?_⟩
  refine ⟨_, rfl, a, ca, sa, sp, xs, sts, rfl, ha, hsa, hst, hsp, by omega, hw, h40, fun r H1 s1 n1 h1 => ?_⟩
  rw [hes] at h1
  refine ⟨szr, fun fo H2 nfo s2 hfo => ⟨_, _, rfl, ?_⟩⟩
  have S2 := s1.trans s2
  have nr := pn.free n1
  have nF : H fo = none := s1.free nfo
  have nf := pn.free nF
  have rf : r ≠ fo := fun z => by rw [← z, h1] at nfo; cases nfo
  refine ⟨_, rfl, _, rfl, r, _, rfl, .inl (s2 _ _ h1), _, _, rfl, rfl, q, m, _, rfl, by omega, by rw [ivs_len]; omega, pn.same S2, by omega, fun d H3 d0 d1 g3 => ⟨_, rfl, by omega, by rw [ivs_len] at d1; omega, ?_⟩⟩
  rw [ivs_len] at d1
  have G3 : Go q (m + 1) H H3 := (Go.of pn S2).trans g3
  refine for_range (lo := 0) (fun i σ' H' => ∃ v4 v5 ps, σ' = [some (.ref q.p), some (.ref a), some (.ref r), some (.ref fo), v4, v5] ∧ Go q (m + 1 + i) H H' ∧ H' r = some (.lst (ivs es)) ∧ H' fo = some (.lst (nvs ps)) ∧ ps.length = i ∧ (∀ p ∈ ps, p < es.length) ∧ lawB es ps = true) ?_ ?_ ?_
  · exact ⟨_, _, [], rfl, G3, g3.kp.lst nr.1 (s2 _ _ h1), g3.kp.lst nf.1 hfo, rfl, fun p hp => absurd hp List.not_mem_nil, rfl⟩
  · rintro i σ' H4 hi ⟨v4, v5, ps, rfl, g4, hr4, hf4, pl, pb, plw⟩
    refine ⟨_, rfl, _, rfl, r, fo, es, ps, rfl, hr4, hf4, rl, by omega, e64, fun l H5 ns s5 n5 h5 nne nb nl => ?_⟩
    have g5 := g4.same s5
    have nl5 : H l = none := g4.none pn n5
    have nL := pn.free nl5
    have np : 0 < ns.length := List.length_pos_iff.mpr nne
    refine ⟨_, rfl, .inl ⟨rfl, _, SqL.of (s5 _ _ hf4)⟩, _, rfl, _, rfl, _, rfl, l, _, rfl, .inl h5, q, _, _, rfl, by rw [nvs_len]; omega, by rw [nvs_len]; omega, g5.pen, by omega, fun e H6 e0 e1 g6 => ?_⟩
    rw [nvs_len] at e1
    obtain ⟨n, rfl⟩ := Int.eq_ofNat_of_zero_le e0
    have nlt : n < ns.length := by omega
    have h6 := g6.kp.lst nL.1 h5
    have hf6 := g6.kp.lst nf.1 (s5 _ _ hf4)
    refine ⟨l, _, _, _, rfl, rfl, .inl h6, atI_nat (nvs_get nlt), fo, _, _, rfl, rfl, hf6, szl (by rw [nvs_len]; omega), ?_⟩
    refine ⟨_, _, ps ++ [ns[n]], rfl, (Go.mut pn nF (g5.trans g6)).mono (by omega), ?_, ?_, by rw [List.length_append, pl]; rfl, fun p hp => ?_, law_snoc plw (nb _ (List.getElem_mem nlt)).2.1 (nb _ (List.getElem_mem nlt)).2.2⟩
    · rw [upd_ne rf]
      exact g6.kp.lst nr.1 (s5 _ _ hr4)
    · rw [upd_same, nvs_app]
      rfl
    · rcases List.mem_append.mp hp with hp | hp
      · exact pb p hp
      · rw [List.mem_singleton.mp hp]
        exact (nb _ (List.getElem_mem nlt)).1
  · rintro σ' H4 ⟨v4, v5, ps, rfl, g4, hr4, hf4, pl, pb, plw⟩
    exact ⟨_, rfl, k fo H4 ps (g4.mono (by omega)) nF hf4 (by omega) (fun p hp => by rw [← esl]; exact pb p hp) plw⟩
end
end Af

set_option Elab.async false
set_option linter.all false
namespace Af
open PySem L2
/-! bits of masks, and what must come ahead, stage by stage -/
theorem bit_in (m j : Nat) : decide (V.int (Builtin.bitAnd ((m : Int) / 2 ^ ((j : Int)).toNat) 1) = V.int 1) = m.testBit j := by
  rw [Int.toNat_natCast]
  have e : (m : Int) / 2 ^ j = ((m / 2 ^ j : Nat) : Int) := by
    rw [Int.natCast_ediv]
    congr 1
  rw [e, PyProof.Rows.bitAnd_pp (Int.natCast_nonneg _) (by decide), Int.toNat_natCast]
  show decide (V.int (((m / 2 ^ j) &&& 1 : Nat) : Int) = V.int 1) = _
  rw [Nat.and_one_is_mod, Nat.testBit_eq_decide_div_mod_eq, Bool.eq_iff_iff, decide_eq_true_iff, decide_eq_true_iff, V.int.injEq]
  omega
theorem shl_one (j : Nat) : (1 : Int) * 2 ^ ((j : Int)).toNat = ((2 ^ j : Nat) : Int) := by
  rw [Int.toNat_natCast, Int.one_mul, Int.natCast_pow]
  rfl
theorem or_nat (a b : Nat) : Builtin.bitOr (a : Int) (b : Int) = ((a ||| b : Nat) : Int) := by
  rw [Bits.bitOr_pp (by omega) (by omega), Int.toNat_natCast, Int.toNat_natCast]
/-- the sum of different powers, upwards -/
theorem sum_bits : ∀ (n : Nat) (ps : List Nat), ps.length = n → ps.Pairwise (· < ·) → ∀ b, (∀ p ∈ ps, p < b) → (ps.map (2 ^ ·)).sum < 2 ^ b ∧ ∀ j, (ps.map (2 ^ ·)).sum.testBit j = ps.contains j
  | 0, ps, hl, _, b, _ => by
    have e : ps = [] := List.eq_nil_of_length_eq_zero hl
    subst e
    exact ⟨Nat.two_pow_pos b, fun j => by simp⟩
  | n + 1, ps', hl, hp, b, hb => by
    have ne : ps' ≠ [] := fun e => by rw [e] at hl; cases hl
    obtain ⟨ps, p, e0⟩ : ∃ ps p, ps' = ps ++ [p] := ⟨ps'.dropLast, ps'.getLast ne, (List.dropLast_concat_getLast ne).symm⟩
    subst e0
    have ih := sum_bits n ps (by rw [List.length_append] at hl; exact Nat.succ.inj hl)
    have h1 := List.pairwise_append.mp hp
    have lt : ∀ q ∈ ps, q < p := fun q hq => h1.2.2 q hq p (List.mem_singleton.mpr rfl)
    obtain ⟨i1, i2⟩ := ih h1.1 p lt
    have pb := hb p (by simp)
    have e : ((ps ++ [p]).map (2 ^ ·)).sum = 2 ^ p + (ps.map (2 ^ ·)).sum := by
      rw [List.map_append, List.sum_append]
      simp [Nat.add_comm]
    have e2 : 2 ^ p + (ps.map (2 ^ ·)).sum = 2 ^ p ||| (ps.map (2 ^ ·)).sum := by
      have := Nat.two_pow_add_eq_or_of_lt i1 1
      rwa [Nat.mul_one] at this
    refine ⟨?_, fun j => ?_⟩
    · rw [e]
      have : 2 ^ (p + 1) ≤ 2 ^ b := Nat.pow_le_pow_right (by decide) pb
      rw [Nat.pow_succ] at this
      omega
    · rw [e, e2, Nat.testBit_or, i2, Nat.testBit_two_pow, Bool.eq_iff_iff]
      simp [List.contains_iff_mem]
      constructor
      · rintro (h | h)
        · exact .inr h.symm
        · exact .inl h
      · rintro (h | h)
        · exact .inr h
        · exact .inl h.symm
/-- one comes ahead of the other by the epochs or by a pair -/
def bsB (es : List Int) (D : List (Nat × Nat)) (i j : Nat) : Bool := decide (gE es i < gE es j) || D.contains (i, j)
def wB (es : List Int) (D : List (Nat × Nat)) : Nat → Nat → Nat → Bool
  | 0, i, j => bsB es D i j
  | k + 1, i, j => wB es D k i j || (wB es D k i k && wB es D k k j)
theorem wB_nil (es : List Int) : ∀ k i j, wB es [] k i j = bsB es [] i j
  | 0, _, _ => rfl
  | k + 1, i, j => by
    show (wB es [] k i j || (wB es [] k i k && wB es [] k k j)) = _
    rw [wB_nil es k i j, wB_nil es k i k, wB_nil es k k j]
    unfold bsB
    rw [Bool.eq_iff_iff]
    simp
    intro h1 h2
    omega
/-- numbers that rise along all that must come ahead -/
def Rise (es : List Int) (D : List (Nat × Nat)) (key : Nat → Int) : Prop := ∀ i j, bsB es D i j = true → i < es.length → j < es.length → key i < key j
theorem wB_rise {es : List Int} {D : List (Nat × Nat)} {key : Nat → Int} (r : Rise es D key) : ∀ k, k ≤ es.length → ∀ i j, i < es.length → j < es.length → wB es D k i j = true → key i < key j
  | 0, _, i, j, hi, hj, h => r i j h hi hj
  | k + 1, hk, i, j, hi, hj, h => by
    have h' : (wB es D k i j || (wB es D k i k && wB es D k k j)) = true := h
    rw [Bool.or_eq_true, Bool.and_eq_true] at h'
    rcases h' with h | ⟨h1, h2⟩
    · exact wB_rise r k (by omega) i j hi hj h
    · have a1 := wB_rise r k (by omega) i k hi (by omega) h1
      have a2 := wB_rise r k (by omega) k j (by omega) hj h2
      omega
theorem wB_no {es : List Int} {D : List (Nat × Nat)} {key : Nat → Int} (r : Rise es D key) {i : Nat} (hi : i < es.length) : wB es D es.length i i = false := by
  cases h : wB es D es.length i i with
  | false => rfl
  | true =>
    have := wB_rise r es.length (Nat.le_refl _) i i hi hi h
    omega
/-- claims that are in no contradiction, as lists -/
structure Cw (es : List Int) (T G : List Nat) (D : List (Nat × Nat)) : Prop where
  tl : T.length ≤ 20
  gl : G.length ≤ 20
  dl : D.length ≤ 20
  tb : ∀ x ∈ T, x < es.length
  gb : ∀ x ∈ G, x < es.length
  db : ∀ d ∈ D, d.1 < es.length ∧ d.2 < es.length ∧ d.1 ≠ d.2
  gt : ∀ x ∈ G, x ∉ T
  gd : ∀ x ∈ G, ∀ d ∈ D, x ≠ d.1 ∧ x ≠ d.2
  rise : ∃ key, Rise es D key
structure Cl (es : List Int) (T G : List Nat) (D : List (Nat × Nat)) : Prop extends Cw es T G D where
  ta : T.Pairwise (· < ·)
  ga : G.Pairwise (· < ·)
  da : D.Pairwise fun a b => a.1 < b.1 ∨ a.1 = b.1 ∧ a.2 < b.2
/-- the pieces that are claimed there -/
def parts (D : List (Nat × Nat)) : List Nat := D.flatMap fun d => [d.1, d.2]
theorem parts_mem {D : List (Nat × Nat)} {x : Nat} : x ∈ parts D ↔ ∃ d ∈ D, x = d.1 ∨ x = d.2 := by
  unfold parts
  rw [List.mem_flatMap]
  simp
theorem parts_len (D : List (Nat × Nat)) : (parts D).length = 2 * D.length := by
  induction D with
  | nil => rfl
  | cons d D ih =>
    have e : parts (d :: D) = d.1 :: d.2 :: parts D := rfl
    rw [e, List.length_cons, List.length_cons, ih, List.length_cons]
    omega
end Af

set_option Elab.async false
set_option linter.all false
set_option maxRecDepth 100000
set_option maxHeartbeats 3200000
namespace Af
open PySem PySem.Spec PyProof.Rows L2
/-! sorted(set(xs)) of a list of numbers -/
/-- the empty set as it is made -/
abbrev oS (w : World) : Obj := ⟨.type "set", none, .set #[] 0 (.fresh 0 0 (!w.params.followText "set-order")), #[]⟩
section
variable {P : Program} {w : World} {A : Around} {E : Value → Shared → Prop} {s : Shared}
/-- what set(xs) leaves: the set last, the rest as it was -/
def Made (P : Program) (w : World) (s : Shared) (ns : List Int) (h' : Heap) (c : Nat) : Prop :=
  SetR w h' s.heap.objs.size (fun j => decide (j ∈ ns)) c ∧ c ≤ ns.length ∧ ∀ b o, s.heap.get? b = some o → h'.get? b = some o
theorem ints_val {items : Array Value} {ns : List Int} (hit : IntsAre items.toList ns) (hz : items.size = ns.length) : ∀ (i : Nat) (v : Value), items[i]? = some v → ∃ k t, ns[i]? = some k ∧ v = .int k t := fun i v e => by
  have il : i < ns.length := hz ▸ (Array.getElem?_eq_some_iff.mp e).1
  have e2 : items.toList[i]? = some v := (Array.getElem?_toList ..).trans e
  obtain ⟨t, rfl⟩ := hit.int_at i v e2
  refine ⟨_, t, List.getElem?_eq_getElem il, ?_⟩
  simp [List.getD_eq_getElem?_getD, List.getElem?_eq_getElem il]
theorem call_setL {l : Addr} {items : Array Value} (ns : List Int) {Q : Value → Shared → Prop} (hh : A.handled = none) (hl : s.heap.IsList l items) (hit : IntsAre items.toList ns) (hb : ns.length + 1 < scanBound)
    (h : ∀ (h' : Heap) (tk c : Nat), Made P w s ns h' c → Q (.ref s.heap.objs.size) { s with heap := h', toks := tk }) : wpAny (model P w) A (call (.type "set") [.ref l]) Q E s := by
  have hz : items.size = ns.length := (Array.length_toList (xs := items)).symm.trans hit.length
  have C := @F.called_set
  obtain ⟨c0, c1, mro⟩ := C.mro
  have c2 := C.made; have c3 := C.sub; have c4 := C.notType; have c5 := C.canCreate; have c6 := F.typeCall_set_1 (.ref l)
  apply wpAny_call; apply codeAny_of_tree
  change wpAny _ _ (callAny (.type "set") ⟨[.ref l], []⟩) _ _ _
  apply wpAny_pure; refine ⟨Code.quiet_builtin _ (by decide +kernel), ?_⟩; apply codeAny_builtin F.entry_type_call
  rw [Around.under_plain (weight_type_call_type "set" [.ref l] []) rfl]
  repeat (any_goals (first | assumption | wp_step))
  apply codeAny_mono (code_set_led1 (.ref l) (E := E) (Q₁ := fun x z => x = .ref s.heap.objs.size ∧ z = { s with heap := s.heap.push (oS w) }) ⟨rfl, rfl⟩)
  rintro (e | (_ | _ | _ | x)) z hr
  · exact hr
  · exact hr.elim
  · exact hr.elim
  · exact hr.elim
  obtain ⟨rfl, rfl⟩ := hr
  have at0 : (s.heap.push (oS w)).get? s.heap.objs.size = some (oS w) := Heap.get?_push_size _ rfl
  have ty0 : Shared.TypeIs { s with heap := s.heap.push (oS w) } (.ref s.heap.objs.size) "set" := ⟨_, at0, rfl⟩
  have i1 := C.init.lookup; have i2 := C.init.bind (.ref s.heap.objs.size)
  repeat (any_goals (first | assumption | wp_step))
  apply codeAny_mono (codeAny_call_builtin (R := wants (fun x z => x = .none ∧ ∃ h' tk c, z = { s with heap := h', toks := tk } ∧ Made P w s ns h' c) E) C.init.plain F.entry_set_init (check_set_init_1 ty0 ?_))
  · rintro (e | (_ | _ | _ | x)) z hr
    · exact hr
    · exact hr.elim
    · exact hr.elim
    · exact hr.elim
    obtain ⟨rfl, h', tk, c, rfl, m⟩ := hr
    repeat (any_goals (first | assumption | wp_step))
    exact h h' tk c m
  obtain ⟨⟨cl, dd, dt, sl⟩, ho, e1, nl, e2⟩ := hl
  cases e1; cases e2
  have ho1 : (s.heap.push (oS w)).get? l = some ⟨.type "list", dd, .seq items nl, sl⟩ := Heap.get?_push_of_some _ ho
  have L1 : (s.heap.push (oS w)).IsList l items := ⟨_, ho1, rfl, nl, rfl⟩
  have j1 := F.sub_list_set; have j2 := F.sub_list_frozenset; have j3 : (Value.type "list" == Value.type "dict") = false := by decide
  unfold Builtin.«set.__init__» noKeywords Builtin.Frozenset.updateFrom; generalize hit2 : pyIter = it
  wp_walk
  subst hit2
  apply wpAny_pyIter_list L1; apply wpAny_bind; apply wpAny_runValue
  have ll : l < s.heap.objs.size := Heap.lt_size ho
  have sz : (s.heap.push (oS w)).objs.size = s.heap.objs.size + 1 := Heap.size_push ..
  have d1 : l ≠ (s.heap.push (oS w)).objs.size := by rw [sz]; exact Nat.ne_of_lt (Nat.lt_succ_of_lt ll)
  have d2 : s.heap.objs.size ∉ [(s.heap.push (oS w)).objs.size, l] := by
    rw [sz]; intro z
    rcases List.mem_cons.mp z with z | z
    · exact absurd z (Nat.ne_of_lt (Nat.lt_succ_self _))
    · exact absurd (List.mem_singleton.mp z) (Nat.ne_of_gt ll)
  apply set_update_ints ((Walks.list (by simp [hh]) _ l d1 items).toS) s.heap.objs.size d2 ns hz hb (ints_val hit hz) (items.size - 0) 0 _ (by omega) (Nat.zero_le _) ⟨⟨_, Heap.get?_push_size _ rfl, rfl, rfl⟩, L1.push _⟩
  · exact ⟨0, Nat.le_refl 0, setR_new_at (Heap.get?_push_of_some _ at0)⟩
  · rintro ⟨h', g2, dr, tk, os⟩ c mv hc hR
    have m1 : g2 = s.gens := mv.gens; have m2 : dr = s.drawn := mv.drawn; have m3 : os = s.os := mv.os
    subst m1; subst m2; subst m3
    change wpAny _ _ _ _ _ _; apply wpAny_pure
    change wpAny _ _ (ret Value.none) _ _ _; apply wpAny_pure
    refine ⟨rfl, h', tk, c, rfl, hR, hz ▸ hc, fun b o e => mv.heap b o ?_ (Heap.get?_push_of_some _ (Heap.get?_push_of_some _ e))⟩
    have bl : b < s.heap.objs.size := Heap.lt_size e
    rw [sz]; intro z
    rcases List.mem_cons.mp z with z | z
    · exact absurd z (Nat.ne_of_lt bl)
    · exact absurd (List.mem_singleton.mp z) (Nat.ne_of_lt (Nat.lt_succ_of_lt bl))
end
/-- set(xs), as the layer says it -/
def rSetI (K : PySem.W.Frag) (w : World) : List V → Hp → VK → Prop := fun xs H Q => ∃ (l : Addr) (ns : List Int), xs = [.ref l] ∧ H l = some (.lst (ivs ns)) ∧ ns.length ≤ 60 ∧ ∀ a c, H a = none → c ≤ ns.length → Q (.ref a) (upd H a (SetO w a (fun j => decide (j ∈ ns)) c))
theorem cr_setI {X : Cx} (hc : X.calm = true := by rfl) : CallR X (.type "set") (rSetI X.K X.w) := by
  intro pins s σ H xs us Q I r h
  obtain ⟨l, ns, rfl, hl, hn, q⟩ := h
  obtain ⟨u, rfl, ru⟩ := vals1 r
  cases (show u = Value.ref l from ru)
  obtain ⟨its, rv, pl, hz⟩ := I.list (SqL.of hl)
  have hi : IntsAre its.toArray.toList ns := by simpa using RZ.intsAre_vals rv
  refine call_setL (P := X.prog) (w := X.w) ns (I.ok.hd hc) pl.isList hi (by unfold scanBound; omega) fun h' tk c m => ?_
  obtain ⟨m1, m2, m3⟩ := m
  have hf := I.hok.fresh (Nat.le_refl s.heap.objs.size)
  exact ⟨.ref _, upd H s.heap.objs.size (SetO X.w s.heap.objs.size (fun j => decide (j ∈ ns)) c), I.laid (t' := tk) m3 (Nat.le_refl _) (setO_new m1), rfl, q _ _ hf m2⟩
end Af

set_option Elab.async false
set_option linter.all false
set_option maxRecDepth 100000
namespace Af
open PySem PySem.Spec PyProof.Rows L2
/-! xs[i] |= e -/
def rGetL : V → V → Hp → VK → Prop := fun x y H Q => ∃ p xs k v, x = .ref p ∧ y = .int ((k : Nat) : Int) ∧ H p = some (.lst xs) ∧ xs[k]? = some v ∧ Q v H
theorem pg_list {X : Cx} : PGet X rGetL := by
  intro pins s σ H o i ov iv Q I ro ri h
  obtain ⟨p, xs, k, z, rfl, rfl, hq, he, q⟩ := h
  cases (show ov = Value.ref p from ro)
  obtain ⟨t, rfl⟩ := ri
  obtain ⟨its, r, pl, hz⟩ := I.list (SqL.of hq)
  obtain ⟨w, ew, rw'⟩ := r.get he
  have hl := r.length
  have kl : k < xs.length := (List.getElem?_eq_some_iff.mp he).1
  have hn := line63
  exact wpAny_getItem_list pl.isList (by omega) (by omega) (by simpa using ew) ⟨z, H, I, rw', q⟩
theorem ip_or {X : Cx} : PIp X .BitOr (ipI fun i j => Builtin.bitOr i j) := by
  intro pins s σ H x y v u Q I r1 r2 h
  obtain ⟨i, j, rfl, rfl, q⟩ := h
  obtain ⟨t, rfl⟩ := r1
  obtain ⟨t', rfl⟩ := r2
  exact ior_int ⟨.int _, H, I.tok _, ⟨_, rfl⟩, q⟩
end Af

set_option Elab.async false
set_option linter.all false
set_option maxRecDepth 100000
set_option maxHeartbeats 4000000
namespace Af
open PySem L2
abbrev s_mask_of : Stmt := top 39
abbrev N_mask_of : List Str := ["members", "member"]
theorem sc_mask_of : FnScope N_mask_of ["members"] (defScope s_mask_of) := ⟨rfl, rfl, rfl, by decide +kernel, rfl, by decide +kernel, by decide +kernel⟩

abbrev s_is_in : Stmt := top 40
abbrev N_is_in : List Str := ["member", "mask"]
theorem sc_is_in : FnScope N_is_in ["member", "mask"] (defScope s_is_in) := ⟨rfl, rfl, rfl, by decide +kernel, rfl, by decide +kernel, by decide +kernel⟩

abbrev s_is_ascending : Stmt := top 11
abbrev N_is_ascending : List Str := ["things", "at"]
theorem sc_is_ascending : FnScope N_is_ascending ["things"] (defScope s_is_ascending) := ⟨rfl, rfl, rfl, by decide +kernel, rfl, by decide +kernel, by decide +kernel⟩

abbrev s_claimed_there : Stmt := top 38
abbrev N_claimed_there : List Str := ["claims", "there", "_", "ahead", "pair", "piece"]
theorem sc_claimed_there : FnScope N_claimed_there ["claims"] (defScope s_claimed_there) := ⟨rfl, rfl, rfl, by decide +kernel, rfl, by decide +kernel, by decide +kernel⟩

theorem pi_tupK {X : Cx} {K : PySem.W.Frag} {e tg : Expr} {te : TE} (hK : X.K = K) (he : PE X e te) : PI X tg e (iTup K te) := by
  subst hK
  exact pi_tup he
/-- pairs of pieces, as things -/
def PairV (H : Hp) (x : V) (d : Nat × Nat) : Prop := ∃ t, x = .ref t ∧ H t = some (.tup [.int (d.1 : Nat), .int (d.2 : Nat)])
theorem pairs_same {H H' : Hp} {xs : List V} {D : List (Nat × Nat)} (s : Same H H') (h : Paired (PairV H) xs D) : Paired (PairV H') xs D := L2.Paired.mapP h fun _ _ ⟨t, e, z⟩ => ⟨t, e, s _ _ z⟩
theorem pairs_kp {p : Addr} {H H' : Hp} {xs : List V} {D : List (Nat × Nat)} (k : Kp p H H') (h : Paired (PairV H) xs D) : Paired (PairV H') xs D := L2.Paired.mapP h fun _ _ ⟨t, e, z⟩ => ⟨t, e, k.tup z⟩
theorem nvs_snoc (ps : List Nat) (p : Nat) : nvs (ps ++ [p]) = nvs ps ++ [.int ((p : Nat) : Int)] := by rw [nvs_app]; rfl
theorem nvs_lt {ps : List Nat} {i : Nat} {y : V} (h : (nvs ps)[i]? = some y) : ∃ hi : i < ps.length, y = .int ((ps[i] : Nat) : Int) := by
  have il : i < ps.length := by rw [← nvs_len]; exact (List.getElem?_eq_some_iff.mp h).1
  rw [nvs_get il] at h
  exact ⟨il, (Option.some.inj h).symm⟩
theorem ivs_nvs (ps : List Nat) : nvs ps = ivs (ps.map fun p => ((p : Nat) : Int)) := rfl
def sp_mask : Sp := fun vs H Q _ => ∃ (a : Addr) (ps : List Nat), vs = [.ref a] ∧ H a = some (.lst (nvs ps)) ∧ ps.Pairwise (· < ·) ∧ (∀ p ∈ ps, p < 64) ∧ ps.length ≤ 64 ∧ ∀ (m : Nat) H', Same H H' → (∀ j, m.testBit j = ps.contains j) → Q (.int (m : Nat)) H'
def sp_is_in : Sp := fun vs H Q _ => ∃ (j m : Nat), vs = [.int (j : Nat), .int (m : Nat)] ∧ Q (.bl (m.testBit j)) H
theorem op_ltTK {X : Cx} {K : PySem.W.Frag} (hK : X.K = K) (hu : X.A.units < cLine) : OpR X (compareOp .Lt) (rLtT K) := by
  subst hK
  exact op_ltT hu
def sp_ascI : Sp := fun vs H Q _ => ∃ (a : Addr) (ps : List Nat), vs = [.ref a] ∧ H a = some (.lst (nvs ps)) ∧ ps.Pairwise (· < ·) ∧ ps.length ≤ 1000 ∧ ∀ H', Same H H' → Q (.bl true) H'
def lexL (a b : Nat × Nat) : Prop := a.1 < b.1 ∨ a.1 = b.1 ∧ a.2 < b.2
def sp_ascP : Sp := fun vs H Q _ => ∃ (a : Addr) (xs : List V) (D : List (Nat × Nat)), vs = [.ref a] ∧ H a = some (.lst xs) ∧ Paired (PairV H) xs D ∧ D.Pairwise lexL ∧ D.length ≤ 1000 ∧ ∀ H', Same H H' → Q (.bl true) H'
def sp_pieces_are (K : PySem.W.Frag) : Sp := fun vs H Q _ => ∃ (n : Nat) (a : Addr) (ps : List Nat), vs = [.int (n : Nat), .ref a] ∧ H a = some (.lst (nvs ps)) ∧ ps.Pairwise (· < ·) ∧ (∀ p ∈ ps, p < n) ∧ ps.length ≤ 1000 ∧ ∀ H', Same H H' → Q (.bl true) H'
def sp_is_pair : Sp := fun vs H Q _ => ∃ (n : Nat) (x : V) (d : Nat × Nat), vs = [.int (n : Nat), x] ∧ PairV H x d ∧ d.1 < n ∧ d.2 < n ∧ d.1 ≠ d.2 ∧ ∀ H', Same H H' → Q (.bl true) H'
def sp_pairs_are : Sp := fun vs H Q _ => ∃ (n : Nat) (a : Addr) (xs : List V) (D : List (Nat × Nat)), vs = [.int (n : Nat), .ref a] ∧ H a = some (.lst xs) ∧ Paired (PairV H) xs D ∧ D.Pairwise lexL ∧ (∀ d ∈ D, d.1 < n ∧ d.2 < n ∧ d.1 ≠ d.2) ∧ D.length ≤ 1000 ∧ ∀ H', Same H H' → Q (.bl true) H'
/-- claims as a thing -/
structure ClV (H : Hp) (v : V) (T G : List Nat) (D : List (Nat × Nat)) (t g d : Addr) : Prop where
  ex : ∃ a xs, v = .ref a ∧ H a = some (.tup [.ref t, .ref g, .ref d]) ∧ H t = some (.lst (nvs T)) ∧ H g = some (.lst (nvs G)) ∧ H d = some (.lst xs) ∧ Paired (PairV H) xs D
theorem ClV.same {H H' : Hp} {v : V} {T G : List Nat} {D : List (Nat × Nat)} {t g d : Addr} (h : ClV H v T G D t g d) (s : Same H H') : ClV H' v T G D t g d := by
  obtain ⟨a, xs, e, h1, h2, h3, h4, h5⟩ := h.ex
  exact ⟨a, xs, e, s _ _ h1, s _ _ h2, s _ _ h3, s _ _ h4, pairs_same s h5⟩
theorem ClV.kp {p : Addr} {H H' : Hp} {v : V} {T G : List Nat} {D : List (Nat × Nat)} {t g d : Addr} (h : ClV H v T G D t g d) (k : Kp p H H') (n1 : t ≠ p) (n2 : g ≠ p) (n3 : d ≠ p) : ClV H' v T G D t g d := by
  obtain ⟨a, xs, e, h1, h2, h3, h4, h5⟩ := h.ex
  exact ⟨a, xs, e, k.tup h1, k.lst n1 h2, k.lst n2 h3, k.lst n3 h4, pairs_kp k h5⟩
def sp_claimed : Sp := fun vs H Q _ => ∃ (v : V) (T G : List Nat) (D : List (Nat × Nat)) (t g d : Addr), vs = [v] ∧ ClV H v T G D t g d ∧ T.length ≤ 20 ∧ D.length ≤ 20 ∧ ∀ l H' cs, Same H H' → H l = none → H' l = some (.lst (nvs cs)) → cs.Pairwise (· < ·) → (∀ x, x ∈ cs ↔ x ∈ T ∨ x ∈ parts D) → cs.length ≤ 60 → Q (.ref l) H'
theorem nat_list : ∀ {ns : List Int}, (∀ z ∈ ns, 0 ≤ z) → ∃ cs : List Nat, ns = cs.map fun p => ((p : Nat) : Int)
  | [], _ => ⟨[], rfl⟩
  | z :: ns, h => by
    obtain ⟨cs, e⟩ := nat_list (ns := ns) fun y hy => h y (List.mem_cons_of_mem _ hy)
    obtain ⟨n, hn⟩ := Int.eq_ofNat_of_zero_le (h z List.mem_cons_self)
    exact ⟨n :: cs, by rw [e, hn]; rfl⟩
theorem nat_asc {cs : List Nat} (h : (cs.map fun p => ((p : Nat) : Int)).Pairwise (· < ·)) : cs.Pairwise (· < ·) := by
  refine (List.pairwise_map.mp h).imp fun {a b} z => ?_
  omega
theorem nat_mem {cs : List Nat} {x : Nat} : ((x : Nat) : Int) ∈ cs.map (fun p => ((p : Nat) : Int)) ↔ x ∈ cs := by
  constructor
  · intro h
    obtain ⟨y, hy, e⟩ := List.mem_map.mp h
    have : y = x := by omega
    rw [← this]
    exact hy
  · intro h
    exact List.mem_map.mpr ⟨x, h, rfl⟩
theorem all_rep (n : Nat) : (List.replicate n true).all id = true := by simp
section
variable {P : Program} {w : World} {K : PySem.W.Frag} {mg : Str → Option Value} {base : Heap}
theorem ok_mask {f : Addr} {fd : FuncData} (F : Fun K "mask_of" "mask_of" s_mask_of f fd) (T : Txt mg) (t_sum : mg "sum" = none) : FnOk P w K mg base CX0 1 f fd ["members"] sp_mask := by
  refine F.ok sc_mask_of (fun vs H Q E h => ?_) (fun cdv A outer s H vs Q E hr h => ?_)
  · obtain ⟨_, _, rfl, _⟩ := h
    rfl
  obtain ⟨a, ps, rfl, ha, asc, b64, pl, k⟩ := h
  refine ⟨_, (pss_one (ps_ret (pe_callB (cr_sum rfl) (by rfl) t_sum (by decide +kernel) (pa_cons (pe_lc (own := [("member", 1)]) (g := (gName 1)) (tt := tYes) rfl sc_mask_of.nd (pi_list (pv 0)) (blkOk_by (own := [("member", 1)]) (N := N_mask_of) (sc := defScope s_mask_of) (by decide +kernel)) (fun _ _ _ _ _ => pg_name (i := 1) sc_mask_of.nd rfl (Or.inl rfl)) (fun _ _ _ _ _ => pts_nil) (fun _ _ _ _ _ => (pe_op op_shl pe_int (pv 1)))) pa_nil)))), ?_⟩
  refine ⟨_, rfl, a, rfl, ⟨_, SqL.of ha⟩, fun D hD => lc_list (K := K) (a := a) (xs := nvs ps) (fun i H' => Same H H' ∧ H' D = some (.lst (nvs ((ps.map (2 ^ ·)).take i)))) ?_ ?_ ?_ ?_⟩
  · exact ⟨same_new hD, upd_same⟩
  · rintro i H' _ ⟨s1, _⟩
    exact SqL.of (s1 _ _ ha)
  · rintro i y H' hy ⟨s1, h1⟩
    obtain ⟨il, rfl⟩ := nvs_lt hy
    have hb := b64 _ (List.getElem_mem il)
    refine ⟨rfl, _, rfl, _, _, rfl, rfl, ⟨by omega, by omega, by decide⟩, _, h1, szl (by rw [nvs_len, List.length_take, List.length_map]; omega), same_mut s1 hD, ?_⟩
    rw [upd_same, List.take_add_one, List.getElem?_map, List.getElem?_eq_getElem il]
    show some (HO.lst (_ ++ [V.int ((1 : Int) * 2 ^ (((ps[i] : Nat) : Int)).toNat)])) = some (HO.lst (nvs (_ ++ [2 ^ ps[i]])))
    rw [nvs_snoc, shl_one]
  · rintro H1 ⟨s1, h1⟩
    rw [List.take_of_length_le (by rw [nvs_len, List.length_map]; exact Nat.le_refl _)] at h1
    refine ⟨D, (ps.map (2 ^ ·)).map fun p => ((p : Nat) : Int), rfl, SqL.of h1, ?_⟩
    have e : ∀ l : List Nat, (l.map fun p => ((p : Nat) : Int)).sum = ((l.sum : Nat) : Int) := fun l => by
      induction l with
      | nil => rfl
      | cons x l ih =>
        rw [List.map_cons, List.sum_cons, List.sum_cons, ih]
        omega
    rw [e]
    exact k _ H1 s1 (sum_bits _ ps rfl asc 64 b64).2
theorem ok_is_in {f : Addr} {fd : FuncData} (F : Fun K "is_in" "is_in" s_is_in f fd) (T : Txt mg) : FnOk P w K mg base CX0 1 f fd ["member", "mask"] sp_is_in := by
  refine F.ok sc_is_in (fun vs H Q E h => ?_) (fun cdv A outer s H vs Q E hr h => ?_)
  · obtain ⟨_, _, rfl, _⟩ := h
    rfl
  obtain ⟨j, m, rfl, k⟩ := h
  refine ⟨_, (pss_one (ps_ret (pe_cmpR op_eq (pe_op op_and (pe_op op_shr (pv 1) (pv 0)) pe_int) pe_int (nomark _)))), ?_⟩
  refine ⟨_, rfl, _, rfl, _, _, rfl, rfl, by omega, _, _, rfl, rfl, rfl, ?_⟩
  have e := bit_in m j
  rw [← e] at k
  exact k
theorem ok_ascI {f : Addr} {fd : FuncData} (F : Fun K "is_ascending" "is_ascending" s_is_ascending f fd) (T : Txt mg) : FnOk P w K mg base CX0 1 f fd ["things"] sp_ascI := by
  refine F.ok sc_is_ascending (fun vs H Q E h => ?_) (fun cdv A outer s H vs Q E hr h => ?_)
  · obtain ⟨_, _, rfl, _⟩ := h
    rfl
  obtain ⟨a, ps, rfl, ha, asc, pl, k⟩ := h
  refine ⟨_, (pss_one (ps_ret (pe_callB (cr_all rfl) (by rfl) T.all (by decide +kernel) (pa_cons (pe_lc (own := [("at", 1)]) (g := (gName 1)) (tt := tYes) rfl sc_is_ascending.nd (pi_range1 rfl T.range (pa_cons (pe_op op_sub (pe_callB call_len' (by rfl) T.len (by decide +kernel) (pa_cons (pv 0) pa_nil)) pe_int) pa_nil)) (blkOk_by (own := [("at", 1)]) (N := N_is_ascending) (sc := defScope s_is_ascending) (by decide +kernel)) (fun _ _ _ _ _ => pg_name (i := 1) sc_is_ascending.nd rfl (Or.inl rfl)) (fun _ _ _ _ _ => pts_nil) (fun _ _ _ _ _ => (pe_cmpR op_lt (pe_ix ix_seq' (pv 0) (pv 1) (fun _ _ => rfl)) (pe_ix ix_seq' (pv 0) (pe_op op_add (pv 1) pe_int) (fun _ _ => rfl)) (nomark _)))) pa_nil)))), ?_⟩
  refine ⟨_, rfl, a, _, rfl, .inl ha, _, _, rfl, rfl, _, rfl, by rw [nvs_len]; omega, by rw [nvs_len]; omega, fun D hD => lc_range (lo := 0) (fun i H' => Same H H' ∧ H' D = some (.lst ((List.replicate i true).map V.bl))) ?_ ?_ ?_⟩
  · exact ⟨same_new hD, upd_same⟩
  · rintro i H' hi ⟨s1, h1⟩
    rw [nvs_len] at hi
    have i1 : i < ps.length := by omega
    have i2 : i + 1 < ps.length := by omega
    have lt : ps[i] < ps[i + 1] := List.pairwise_iff_getElem.mp asc i (i + 1) i1 i2 (by omega)
    refine ⟨rfl, _, rfl, _, rfl, a, _, _, _, rfl, rfl, .inl (s1 _ _ ha), at_of (Int.zero_add _) (nvs_get i1), _, rfl, _, rfl, _, _, rfl, rfl, a, _, _, _, rfl, rfl, .inl (s1 _ _ ha), at_of (by omega) (nvs_get i2), _, _, rfl, rfl, ?_⟩
    refine ⟨_, h1, szl (by rw [List.length_map, List.length_replicate]; omega), same_mut s1 hD, ?_⟩
    rw [upd_same, List.replicate_succ', List.map_append]
    show some (HO.lst (_ ++ [V.bl (decide (((ps[i] : Nat) : Int) < ((ps[i + 1] : Nat) : Int)))])) = _
    rw [decide_eq_true (show ((ps[i] : Nat) : Int) < ((ps[i + 1] : Nat) : Int) by omega)]
    rfl
  · rintro H1 ⟨s1, h1⟩
    refine ⟨D, List.replicate _ true, rfl, SqL.of h1, ?_⟩
    rw [all_rep]
    exact k H1 s1
theorem ok_ascP {f : Addr} {fd : FuncData} (F : Fun K "is_ascending" "is_ascending" s_is_ascending f fd) (T : Txt mg) : FnOk P w K mg base CX0 1 f fd ["things"] sp_ascP := by
  refine F.ok sc_is_ascending (fun vs H Q E h => ?_) (fun cdv A outer s H vs Q E hr h => ?_)
  · obtain ⟨_, _, _, rfl, _⟩ := h
    rfl
  obtain ⟨a, xs, D0, rfl, ha, hp, asc, pl, k⟩ := h
  have xl := paired_len hp
  refine ⟨_, (pss_one (ps_ret (pe_callB (cr_all rfl) (by rfl) T.all (by decide +kernel) (pa_cons (pe_lc (own := [("at", 1)]) (g := (gName 1)) (tt := tYes) rfl sc_is_ascending.nd (pi_range1 rfl T.range (pa_cons (pe_op op_sub (pe_callB call_len' (by rfl) T.len (by decide +kernel) (pa_cons (pv 0) pa_nil)) pe_int) pa_nil)) (blkOk_by (own := [("at", 1)]) (N := N_is_ascending) (sc := defScope s_is_ascending) (by decide +kernel)) (fun _ _ _ _ _ => pg_name (i := 1) sc_is_ascending.nd rfl (Or.inl rfl)) (fun _ _ _ _ _ => pts_nil) (fun _ _ _ _ _ => (pe_cmpR (op_ltTK (K := K) rfl hr.units0) (pe_ix ix_seq' (pv 0) (pv 1) (fun _ _ => rfl)) (pe_ix ix_seq' (pv 0) (pe_op op_add (pv 1) pe_int) (fun _ _ => rfl)) (nomark _)))) pa_nil)))), ?_⟩
  refine ⟨_, rfl, a, _, rfl, .inl ha, _, _, rfl, rfl, _, rfl, by omega, by omega, fun D hD => lc_range (lo := 0) (fun i H' => Same H H' ∧ H' D = some (.lst ((List.replicate i true).map V.bl))) ?_ ?_ ?_⟩
  · exact ⟨same_new hD, upd_same⟩
  · rintro i H' hi ⟨s1, h1⟩
    have i1 : i < xs.length := by omega
    have i2 : i + 1 < xs.length := by omega
    obtain ⟨d1, hd1, t1, e1, z1⟩ := paired_get hp (List.getElem?_eq_getElem i1)
    obtain ⟨d2, hd2, t2, e2, z2⟩ := paired_get hp (List.getElem?_eq_getElem i2)
    have lt : lexL d1 d2 := by
      obtain ⟨j1, q1⟩ := List.getElem?_eq_some_iff.mp hd1
      obtain ⟨j2, q2⟩ := List.getElem?_eq_some_iff.mp hd2
      rw [← q1, ← q2]
      exact List.pairwise_iff_getElem.mp asc i (i + 1) j1 j2 (by omega)
    refine ⟨rfl, _, rfl, _, rfl, a, _, _, _, rfl, rfl, .inl (s1 _ _ ha), at_of (Int.zero_add _) (List.getElem?_eq_getElem i1), _, rfl, _, rfl, _, _, rfl, rfl, a, _, _, _, rfl, rfl, .inl (s1 _ _ ha), at_of (by omega) (List.getElem?_eq_getElem i2), ?_⟩
    refine ⟨t1, t2, [((d1.1 : Nat) : Int), ((d1.2 : Nat) : Int)], [((d2.1 : Nat) : Int), ((d2.2 : Nat) : Int)], e1, e2, SqT.of (s1 _ _ z1), SqT.of (s1 _ _ z2), ?_⟩
    have e : HT.lexLt [((d1.1 : Nat) : Int), ((d1.2 : Nat) : Int)] [((d2.1 : Nat) : Int), ((d2.2 : Nat) : Int)] = true := by
      unfold HT.lexLt HT.lexLt
      rcases lt with h | ⟨h, h'⟩
      · rw [if_neg (by omega)]
        exact decide_eq_true (by omega)
      · rw [if_pos (by omega), if_neg (by omega)]
        exact decide_eq_true (by omega)
    rw [e]
    refine ⟨_, h1, szl (by rw [List.length_map, List.length_replicate]; omega), same_mut s1 hD, ?_⟩
    rw [upd_same, List.replicate_succ', List.map_append]
    rfl
  · rintro H1 ⟨s1, h1⟩
    refine ⟨D, List.replicate _ true, rfl, SqL.of h1, ?_⟩
    rw [all_rep]
    exact k H1 s1
end
end Af

set_option Elab.async false
set_option linter.all false
set_option maxRecDepth 100000
set_option maxHeartbeats 4000000
namespace Af
open PySem L2
theorem ty_i {K : PySem.W.Frag} {H : Hp} (z : Int) : Ty K H (.int z) "int" := ⟨.int _, by decide, fun _ _ _ e => by cases e⟩
theorem ty_l {K : PySem.W.Frag} {H : Hp} {a : Addr} {xs : List V} (h : H a = some (.lst xs)) : Ty K H (.ref a) "list" := ⟨.lst h, by decide, fun b o u e z => by cases e; rw [h] at z; cases z⟩
theorem ty_t {K : PySem.W.Frag} {H : Hp} {a : Addr} {xs : List V} (h : H a = some (.tup xs)) : Ty K H (.ref a) "tuple" := ⟨.tup h, by decide, fun b o u e z => by cases e; rw [h] at z; cases z⟩
theorem idx_nat {n p : Nat} (h : p < n) : idxB (n : Int) (.int ((p : Nat) : Int)) = true := by
  show (decide ((0 : Int) ≤ (p : Int)) && decide ((p : Int) < (n : Int))) = true
  rw [decide_eq_true (by omega), decide_eq_true (by omega)]
  rfl
theorem isB_ll : isB "list" "list" = true := by decide
theorem isB_tt : isB "tuple" "tuple" = true := by decide
section
variable {P : Program} {w : World} {K : PySem.W.Frag} {mg : Str → Option Value} {base : Heap}
theorem ok_claimed {f : Addr} {fd : FuncData} (F : Fun K "claimed_there" "claimed_there" s_claimed_there f fd) (T : Txt mg) (t_set : mg "set" = none) (t_sorted : mg "sorted" = none) : FnOk P w K mg base CX0 1 f fd ["claims"] sp_claimed := by
  refine F.ok sc_claimed_there (fun vs H Q E h => ?_) (fun cdv A outer s H vs Q E hr h => ?_)
  · obtain ⟨_, _, _, _, _, _, _, rfl, _⟩ := h
    rfl
  obtain ⟨v, Tl, Gl, Dl, t, g, d, rfl, hc, tl, dl, k⟩ := h
  obtain ⟨a, xs, rfl, ha, ht, hg, hd, hp⟩ := hc.ex
  have xl := paired_len hp
  refine ⟨_, (pss_cons (ps_asg (pv 0) (pg_tup rfl (pgs_cons (pg_name (i := 1) sc_claimed_there.nd rfl (Or.inl rfl)) (pgs_cons (pg_name (i := 2) sc_claimed_there.nd rfl (Or.inl rfl)) (pgs_cons (pg_name (i := 3) sc_claimed_there.nd rfl (Or.inl rfl)) pgs_nil)))))
    (pss_one (ps_ret (pe_callB (cr_sortedSet rfl) (by rfl) t_sorted (by decide +kernel) (pa_cons (pe_callTy (cr_setI rfl) (by rfl) t_set (by decide +kernel) (pa_cons (pe_op op_cat' (pv 1) (pe_lc2 (own := [("pair", 4), ("piece", 5)]) (vs1 := [5]) (g := (gName 4)) (g1 := (gName 5)) (tt := tYes) (tt1 := tYes) rfl sc_claimed_there.nd (pi_list (pv 3)) (blkOk_by (own := [("pair", 4), ("piece", 5)]) (N := N_claimed_there) (sc := defScope s_claimed_there) (by decide +kernel)) (by decide) (fun _ _ _ _ _ => pg_name (i := 4) sc_claimed_there.nd rfl (Or.inl rfl)) (fun _ _ _ _ _ => pts_nil) (fun _ _ _ _ _ => (pi_tupK (K := K) rfl (pv 4))) (fun _ _ _ _ _ => pg_name (i := 5) sc_claimed_there.nd rfl (Or.inl rfl)) (fun _ _ _ _ _ => pts_nil) (fun _ _ _ _ _ => (pv 5)))) pa_nil)) pa_nil))))), ?_⟩
  refine ⟨_, rfl, a, _, rfl, SqT.of ha, rfl, _, _, rfl, _, _, rfl, _, _, rfl, rfl, ?_⟩
  refine ⟨_, rfl, _, rfl, d, rfl, ⟨_, SqL.of hd⟩, fun D hD => ?_⟩
  have fin : ∀ H1, Same H H1 → H1 D = some (.lst (nvs (parts Dl))) → rCat' (.ref t) (.ref D) H1 fun x H2 => rSetI K w [x] H2 fun y H3 => rSortedSet w [y] H3 Q := fun H1 s1 h1 => by
    refine ⟨t, D, _, _, rfl, rfl, s1 _ _ ht, h1, sz (by rw [nvs_len, nvs_len, parts_len]; omega), fun l H2 n2 s2 h2 => ?_⟩
    have e : nvs Tl ++ nvs (parts Dl) = ivs ((Tl ++ parts Dl).map fun p => ((p : Nat) : Int)) := by rw [← nvs_app]; rfl
    rw [e] at h2
    refine ⟨l, _, rfl, h2, by rw [List.length_map, List.length_append, parts_len]; omega, fun b c nb hcl => ?_⟩
    rw [List.length_map, List.length_append, parts_len] at hcl
    refine ⟨b, _, c, rfl, upd_same, by omega, fun ns p asc mem ln np => ?_⟩
    have nn : ∀ z ∈ ns, 0 ≤ z := fun z hz => by
      have := (mem z).mp hz
      have := of_decide_eq_true this
      obtain ⟨q, _, rfl⟩ := List.mem_map.mp this
      omega
    obtain ⟨cs, rfl⟩ := nat_list nn
    have s3 : Same H2 (upd H2 b (SetO w b (fun j => decide (j ∈ (Tl ++ parts Dl).map fun p => ((p : Nat) : Int))) c)) := same_new nb
    have s4 := same_new (o := .lst (nvs cs)) np
    have S := s1.trans (s2.trans (s3.trans s4))
    refine k p _ cs S ?_ upd_same (nat_asc asc) (fun x => ?_) (by rw [List.length_map] at ln; omega)
    · exact (s1.trans (s2.trans s3)).free np
    · rw [← nat_mem, mem, decide_eq_true_iff, nat_mem, List.mem_append]
  refine ⟨fun i m H' => m = xs.length - i ∧ i ≤ xs.length ∧ Same H H' ∧ H' D = some (.lst (nvs (parts (Dl.take i)))), ⟨_, rfl, Nat.zero_le _, same_new hD, upd_same⟩, ?_⟩
  rintro i m H1 ⟨rfl, hi, s1, h1⟩
  by_cases c : i < xs.length
  · refine .inr ⟨⟨xs, xs[i], SqL.of (s1 _ _ hd), by simp [c]⟩, fun H' => Same H H' ∧ H' D = some (.lst (nvs (parts (Dl.take (i + 1))))), fun H' ⟨a1, a2⟩ => ⟨xs.length - (i + 1), by omega, rfl, by omega, a1, a2⟩, fun x H2 hy => ?_⟩
    obtain ⟨rfl, hy⟩ := hy
    have hx := hy xs (SqL.of (s1 _ _ hd))
    obtain ⟨e, he, q, rfl, hq⟩ := paired_get (pairs_same s1 hp) hx
    have tk : parts (Dl.take (i + 1)) = (parts (Dl.take i) ++ [e.1]) ++ [e.2] := by
      rw [List.take_add_one, he]
      unfold parts
      rw [List.flatMap_append]
      simp
    have il : (parts (Dl.take i)).length ≤ 40 := by rw [parts_len, List.length_take]; omega
    refine ⟨rfl, _, rfl, q, rfl, ⟨_, SqT.of hq⟩, ?_⟩
    refine ⟨fun j m H' => m = 2 - j ∧ j ≤ 2 ∧ Same H H' ∧ H' q = some (.tup [.int (e.1 : Nat), .int (e.2 : Nat)]) ∧ H' D = some (.lst (nvs (parts (Dl.take i) ++ [e.1, e.2].take j))), ⟨2, rfl, Nat.zero_le _, s1, hq, by rw [h1]; simp⟩, ?_⟩
    rintro j m H3 ⟨rfl, hj, s3, hq3, h3⟩
    by_cases cj : j < 2
    · refine .inr ⟨⟨_, [V.int (e.1 : Nat), .int (e.2 : Nat)][j]'(by simpa using cj), SqT.of hq3, by simp [cj]⟩, fun H' => Same H H' ∧ H' q = some (.tup [.int (e.1 : Nat), .int (e.2 : Nat)]) ∧ H' D = some (.lst (nvs (parts (Dl.take i) ++ [e.1, e.2].take (j + 1)))), fun H' ⟨a1, a2, a3⟩ => ⟨2 - (j + 1), by omega, rfl, by omega, a1, a2, a3⟩, fun y H4 hy => ?_⟩
      obtain ⟨rfl, hy⟩ := hy
      have hy' := hy _ (SqT.of hq3)
      have qD : q ≠ D := ne_of hq3 h3 (by intro z; cases z)
      have st : ∀ z : Nat, y = .int (z : Nat) → [e.1, e.2].take (j + 1) = [e.1, e.2].take j ++ [z] → Same H (upd H4 D (.lst (nvs (parts (Dl.take i) ++ [e.1, e.2].take j) ++ [y]))) ∧ (upd H4 D (.lst (nvs (parts (Dl.take i) ++ [e.1, e.2].take j) ++ [y]))) q = some (.tup [.int (e.1 : Nat), .int (e.2 : Nat)]) ∧ (upd H4 D (.lst (nvs (parts (Dl.take i) ++ [e.1, e.2].take j) ++ [y]))) D = some (.lst (nvs (parts (Dl.take i) ++ [e.1, e.2].take (j + 1)))) := fun z ez et => by
        subst ez
        refine ⟨same_mut s3 hD, by rw [upd_ne qD]; exact hq3, ?_⟩
        rw [upd_same, et, ← List.append_assoc, nvs_snoc]
      refine ⟨rfl, _, rfl, _, h3, szl (by rw [nvs_len, List.length_append, List.length_take]; show _ + min j 2 < _; omega), ?_⟩
      match j, cj with
      | 0, _ => exact st e.1 (Option.some.inj hy').symm rfl
      | 1, _ => exact st e.2 (Option.some.inj hy').symm rfl
    · have : j = 2 := by omega
      subst this
      refine .inl ⟨⟨_, SqT.of hq3, Nat.le_refl _⟩, s3, ?_⟩
      rw [h3, tk]
      simp
  · have e : i = xs.length := by omega
    subst e
    rw [xl, List.take_length] at h1
    exact .inl ⟨⟨xs, SqL.of (s1 _ _ hd), Nat.le_refl _⟩, fin H1 s1 h1⟩
end
end Af

set_option Elab.async false
set_option linter.all false
set_option maxRecDepth 100000
set_option maxHeartbeats 4000000
namespace Af
open PySem L2
abbrev s_later_pieces : Stmt := top 41
abbrev N_later_pieces : List Str := ["plan", "ahead", "epochs", "higher", "later", "piece", "other", "middle", "epoch", "at", "mask"]
theorem sc_later_pieces : FnScope N_later_pieces ["plan", "ahead"] (defScope s_later_pieces) := ⟨rfl, rfl, rfl, by decide +kernel, rfl, by decide +kernel, by decide +kernel⟩

def scL : Scope := { kind := ScopeKind.function, names := [(".0", NameKind.local), ("epoch", NameKind.cell), ("mask_of", NameKind.globalImplicit), ("enumerate", NameKind.globalImplicit), ("epochs", NameKind.cell)], isGenerator := false, isCoroutine := false }
theorem pi_enumK {X : Cx} {K : PySem.W.Frag} (hK : X.K = K) {e : Expr} {ta : TA} {p pos tpos : Pos} {elts : List Expr} {kk : Nat} (hg : Gl X "enumerate") (hm : X.mg "enumerate" = none) (ha : PA X [e] ta) (hs : starEach [e] X.env = [(false, eval e X.env)] := by rfl) :
    PI X (.Tuple elts kk tpos) (.Call (.Name "enumerate" p) [e] [] pos) (iEnum K ta) := by
  subst hK
  exact pi_enum hg hm ha hs
theorem PlanF.x {C sl ql el : Addr} {H : Hp} {x : V} {pl : Pl} (f : PlanF C H x pl sl ql el) : ∃ a ca dx fs xs ys, x = .ref a ∧ PlanX C a ca sl ql el H pl xs ys ∧ H ca = some (.tup (ivs pl.cs)) ∧ Paired (StepV H) xs pl.sts ∧ Paired (PieceA H) ys (allP pl.w 0 pl.sts) ∧ H a = some (.ins C dx fs) := by
  obtain ⟨a, ca, xs, ys, rfl, pX, h6, h7, h8⟩ := f.ex
  obtain ⟨⟨dx, fs, h1, _⟩, _⟩ := id pX
  exact ⟨a, ca, dx, fs, xs, ys, rfl, pX, h6, h7, h8, h1⟩
theorem rk_in {pl : Pl} {i : Nat} (h : i < (rkP pl).length) : ∃ e : Nat, gE (rkP pl) i = (e : Int) ∧ e < bars pl.sts + 1 := by
  have m : gE (rkP pl) i ∈ rkP pl := by
    unfold gE
    rw [List.getD_eq_getElem?_getD, List.getElem?_eq_getElem h]
    exact List.getElem_mem h
  obtain ⟨p, _, ep⟩ := List.mem_map.mp m
  refine ⟨bars (pl.sts.take p.1.toNat), ep.symm, ?_⟩
  unfold bars
  have := (List.take_sublist p.1.toNat pl.sts).countP_le (p := fun (x : Stp) => x.isNone)
  omega
/-- the pieces of higher epochs, as far as they were asked -/
def upU (es : List Int) (k : Int) (i : Nat) : List Nat := (List.range i).filter fun j => decide (k < gE es j)
theorem upU_succ (es : List Int) (k : Int) (i : Nat) : upU es k (i + 1) = upU es k i ++ (if k < gE es i then [i] else []) := by
  unfold upU
  rw [List.range_succ, List.filter_append]
  congr 1
  by_cases c : k < gE es i
  · rw [if_pos c, List.filter_cons, decide_eq_true c]
    rfl
  · rw [if_neg c, List.filter_cons, decide_eq_false c]
    rfl
theorem upU_mem {es : List Int} {k : Int} {i j : Nat} : j ∈ upU es k i ↔ j < i ∧ k < gE es j := by
  unfold upU
  rw [List.mem_filter, List.mem_range, decide_eq_true_iff]
theorem upU_asc (es : List Int) (k : Int) (i : Nat) : (upU es k i).Pairwise (· < ·) := List.pairwise_lt_range.filter _
theorem upU_len (es : List Int) (k : Int) (i : Nat) : (upU es k i).length ≤ i := by
  have := List.length_filter_le (fun j => decide (k < gE es j)) (List.range i)
  rw [List.length_range] at this
  exact this
def gM (ms : List Nat) (i : Nat) : Nat := ms.getD i 0
theorem gM_get {ms : List Nat} {i : Nat} (h : i < ms.length) : ms[i] = gM ms i := by
  unfold gM
  rw [List.getD_eq_getElem?_getD, List.getElem?_eq_getElem h]
  rfl
theorem gM_snoc {ms : List Nat} {m i : Nat} : gM (ms ++ [m]) i = if i < ms.length then gM ms i else if i = ms.length then m else 0 := by
  unfold gM
  rw [List.getD_eq_getElem?_getD, List.getD_eq_getElem?_getD]
  by_cases c : i < ms.length
  · rw [if_pos c, List.getElem?_append_left c]
  · rw [if_neg c, List.getElem?_append_right (by omega)]
    by_cases d : i = ms.length
    · rw [if_pos d, d, Nat.sub_self]
      rfl
    · rw [if_neg d, List.getElem?_eq_none (by simp; omega)]
      rfl
theorem gM_set {ms : List Nat} {m i k : Nat} (h : k < ms.length) : gM (ms.set k m) i = if i = k then m else gM ms i := by
  unfold gM
  rw [List.getD_eq_getElem?_getD, List.getD_eq_getElem?_getD, List.getElem?_set]
  by_cases c : i = k
  · rw [if_pos c.symm, if_pos c, if_pos (by omega)]
    rfl
  · rw [if_neg (Ne.symm c), if_neg c]
theorem gM_map {f : Nat → Nat} {ms : List Nat} {i : Nat} (h : i < ms.length) : gM (ms.map f) i = f (gM ms i) := by
  unfold gM
  rw [List.getD_eq_getElem?_getD, List.getD_eq_getElem?_getD, List.getElem?_map, List.getElem?_eq_getElem h]
  rfl
theorem nvs_set (ms : List Nat) (k m : Nat) : (nvs ms).set k (.int ((m : Nat) : Int)) = nvs (ms.set k m) := by
  unfold nvs ivs
  rw [List.map_set, List.map_set]
theorem nvs_gM {ms : List Nat} {i : Nat} (h : i < ms.length) : (nvs ms)[i]? = some (.int ((gM ms i : Nat) : Int)) := by rw [nvs_get h, gM_get h]
def sp_later (C : Addr) : Sp := fun vs H Q _ => ∃ (x : V) (pl : Pl) (sl ql el a : Addr) (xs : List V) (D : List (Nat × Nat)), vs = [x, .ref a] ∧ PlanF C H x pl sl ql el ∧ H a = some (.lst xs) ∧ Paired (PairV H) xs D ∧ (∀ d ∈ D, d.1 < (rkP pl).length ∧ d.2 < (rkP pl).length) ∧
  ∀ l H' ms, Same H H' → H l = none → H' l = some (.lst (nvs ms)) → ms.length = (rkP pl).length → (∀ i < (rkP pl).length, ∀ j < (rkP pl).length, (gM ms i).testBit j = wB (rkP pl) D (rkP pl).length i j) → Q (.ref l) H'
section
variable {P : Program} {w : World} {K : PySem.W.Frag} {mg : Str → Option Value} {base : Heap}
theorem ok_later {f C : Addr} {fd : FuncData} (F : Fun K "later_pieces" "later_pieces" s_later_pieces f fd) (T : Txt mg) (TC : PlanC K mg C) (P_epochs : PropC P w K mg base C "epochs" (sp_p_epochs C))
    (c_piece_epochs : Cal P w K mg base 4 "piece_epochs" ["plan"] (sp_pe C)) (c_mask_of : Cal P w K mg base 1 "mask_of" ["members"] sp_mask) (c_is_in : Cal P w K mg base 1 "is_in" ["member", "mask"] sp_is_in) : FnOk P w K mg base CX0 5 f fd ["plan", "ahead"] (sp_later C) := by
  refine F.ok sc_later_pieces (fun vs H Q E h => ?_) (fun cdv A outer s H vs Q E hr h => ?_)
  · obtain ⟨_, _, _, _, _, _, _, _, rfl, _⟩ := h
    rfl
  obtain ⟨x, pl, sl, ql, el, a, xs, Dl, rfl, pF, ha, hp, db, k⟩ := h
  have xl := paired_len hp
  have rk := fun i (h : i < (rkP pl).length) => rk_in h
  have n40 : (rkP pl).length ≤ 40 := by rw [rkP_len]; exact pF.ok.pc
  have osl := pF.ok.sl
  have bl : bars pl.sts ≤ pl.sts.length := List.countP_le_length
  refine ⟨_, (pss_cons (ps_set (i := 2) sc_later_pieces.nd rfl (Or.inr rfl) (pe_cal c_piece_epochs hr (pa_cons (pv 0) pa_nil)))
    (pss_cons (ps_set (i := 3) sc_later_pieces.nd rfl (Or.inr rfl) (pe_lc (own := [("epoch", 8)]) (g := (gName 8)) (tt := tYes) rfl sc_later_pieces.nd (pi_range1 rfl T.range (pa_cons (pe_propC TC.cl P_epochs hr (pv 0)) pa_nil)) (blkOk_by (own := [("epoch", 8)]) (N := N_later_pieces) (sc := defScope s_later_pieces) (by decide +kernel)) (fun _ _ _ _ _ => pg_name (i := 8) sc_later_pieces.nd rfl (Or.inr rfl)) (fun _ _ _ _ _ => pts_nil) (fun _ _ _ _ _ => (pe_cal c_mask_of hr (pa_cons (pe_lc (own := [("piece", 5), ("at", 9)]) (g := (gTup K 2 (gCons (gName 5) (gCons (gName 9) gNil)))) rfl sc_later_pieces.nd (pi_enumK (K := K) rfl rfl T.enumerate (pa_cons (pv 2) pa_nil)) (blkOk_by (own := [("piece", 5), ("at", 9)]) (N := N_later_pieces) (sc := scL) (by decide +kernel)) (fun _ _ _ _ _ => pg_tup rfl (pgs_cons (pg_name (i := 5) sc_later_pieces.nd rfl (Or.inl rfl)) (pgs_cons (pg_name (i := 9) sc_later_pieces.nd rfl (Or.inl rfl)) pgs_nil))) (fun _ _ _ _ _ => (pts_one (pt_cmpR op_gt (pv 9) (pv 8) (nomark _)))) (fun _ _ _ _ _ => (pv 5))) pa_nil)))))
    (pss_cons (ps_set (i := 4) sc_later_pieces.nd rfl (Or.inr rfl) (pe_lc (own := [("epoch", 8)]) (g := (gName 8)) (tt := tYes) rfl sc_later_pieces.nd (pi_list (pv 2)) (blkOk_by (own := [("epoch", 8)]) (N := N_later_pieces) (sc := defScope s_later_pieces) (by decide +kernel)) (fun _ _ _ _ _ => pg_name (i := 8) sc_later_pieces.nd rfl (Or.inl rfl)) (fun _ _ _ _ _ => pts_nil) (fun _ _ _ _ _ => (pe_ix ix_seq' (pv 3) (pv 8) (fun _ _ => rfl)))))
    (pss_cons (ps_if (pt_not (pt_truth (pv 1) (by intro _; rfl)))
      (pss_one (ps_ret (pv 4)))
      pss_nil)
    (pss_cons (ps_for PassesOwn.never rfl (pi_list (pv 1)) (pg_tup rfl (pgs_cons (pg_name (i := 5) sc_later_pieces.nd rfl (Or.inl rfl)) (pgs_cons (pg_name (i := 6) sc_later_pieces.nd rfl (Or.inl rfl)) pgs_nil)))
      (pss_one (ps_augS (pv 4) (pv 5) pg_list (pe_op op_shl pe_int (pv 6)) ip_or set_list)))
    (pss_cons (ps_for PassesOwn.never rfl (pi_range1 rfl T.range (pa_cons (pe_callB call_len' (by rfl) T.len (by decide +kernel) (pa_cons (pv 4) pa_nil)) pa_nil)) (pg_name (i := 7) sc_later_pieces.nd rfl (Or.inr rfl))
      (pss_one (ps_set (i := 4) sc_later_pieces.nd rfl (Or.inr rfl) (pe_lc (own := [("mask", 10)]) (g := (gName 10)) (tt := tYes) rfl sc_later_pieces.nd (pi_list (pv 4)) (blkOk_by (own := [("mask", 10)]) (N := N_later_pieces) (sc := defScope s_later_pieces) (by decide +kernel)) (fun _ _ _ _ _ => pg_name (i := 10) sc_later_pieces.nd rfl (Or.inl rfl)) (fun _ _ _ _ _ => pts_nil) (fun _ _ _ _ _ => (pe_ifExp (pt_val (pe_cal c_is_in hr (pa_cons (pv 7) (pa_cons (pv 10) pa_nil)))) (pe_op op_or (pv 10) (pe_ix ix_seq' (pv 4) (pv 7) (fun _ _ => rfl))) (pv 10)))))))
    (pss_one (ps_ret (pv 4))))))))), ?_⟩
  refine ⟨_, rfl, x, pl, sl, ql, el, rfl, pF, fun l1 H1 s1 n1 h1 => ?_⟩
  obtain ⟨pa, ca, dx, fs, ps0, ys0, ex, pX, _, _, _, hx⟩ := (pF.same s1).x
  generalize hes : rkP pl = es at rk n40 k h1 db
  refine ⟨_, rfl, pa, dx, fs, ex, hx, pa, ca, sl, ql, el, pl, ps0, ys0, rfl, pX, ?_⟩
  refine ⟨_, rfl, by omega, by omega, fun D hD => lc_range (lo := 0) (fun e H' => ∃ ms, Same H1 H' ∧ H' D = some (.lst (nvs ms)) ∧ ms.length = e ∧ ∀ q < e, ∀ j, (gM ms q).testBit j = decide (j < es.length ∧ (q : Int) < gE es j)) ?_ ?_ ?_⟩
  · exact ⟨[], same_new hD, upd_same, rfl, fun q hq => absurd hq (Nat.not_lt_zero _)⟩
  · rintro e H2 he ⟨ms, s2, h2, ml, mb⟩
    have h12 := s2 _ _ h1
    refine ⟨rfl, _, rfl, l1, ivs es, rfl, SqL.of h12, fun D2 hD2 => lc_it (walk_enum (K := K) (a := l1) (xs := ivs es)) (fun i H' => Same H2 H' ∧ H' D2 = some (.lst (nvs (upU es (e : Int) i)))) ?_ ?_ ?_ ?_⟩
    · exact ⟨same_new hD2, upd_same⟩
    · rintro i H' _ ⟨s3, _⟩
      exact SqL.of (s3 _ _ h12)
    · rintro i v H3 H4 hi ⟨s3, h3⟩ ⟨T', x', y', rfl, hT, rfl, hx', hy'⟩
      have hx'' := Option.some.inj hx'
      subst hx''
      have il : i < es.length := by rw [ivs_len] at hi; exact hi
      have ey : (ivs es)[i]? = some y' := hy'
      rw [gE_get il] at ey
      cases ey
      have s4 : Same H3 (upd H3 T' (.tup [.int (i : Nat), .int (gE es i)])) := same_new hT
      have us := upU_succ es (e : Int) i
      have ul := upU_len es (e : Int) i
      refine ⟨T', _, rfl, SqT.of upd_same, rfl, _, _, rfl, _, _, rfl, rfl, rfl, ?_⟩
      refine ⟨_, rfl, _, rfl, _, _, rfl, rfl, _, rfl, ite2 (fun z => ?_) (fun z => ?_)⟩
      · have z' : (e : Int) < gE es i := by have := of_decide_eq_true z; omega
        rw [if_pos z'] at us
        refine ⟨_, rfl, _, s4 _ _ h3, szl (by rw [nvs_len]; omega), same_mut (s3.trans s4) hD2, ?_⟩
        rw [upd_same, us, nvs_snoc]
      · have z' : ¬ (e : Int) < gE es i := fun y => z (decide_eq_true (by omega))
        rw [if_neg z', List.append_nil] at us
        exact ⟨s3.trans s4, by rw [us]; exact s4 _ _ h3⟩
    · rintro H3 ⟨s3, h3⟩
      rw [ivs_len] at h3
      have ul := upU_len es (e : Int) es.length
      refine ⟨D2, _, rfl, h3, upU_asc _ _ _, fun p hp => by have := (upU_mem.mp hp).1; omega, by omega, fun m H4 s4 hm => ?_⟩
      have S := s2.trans (s3.trans s4)
      refine ⟨_, s4 _ _ (s3 _ _ h2), szl (by rw [nvs_len]; omega), ms ++ [m], same_mut S hD, by rw [upd_same, nvs_snoc], by rw [List.length_append, ml]; rfl, fun q hq j => ?_⟩
      rw [gM_snoc]
      rcases Nat.lt_or_ge q e with c | c
      · rw [if_pos (by omega)]
        exact mb q c j
      · have : q = e := by omega
        subst this
        rw [if_neg (by omega), if_pos ml.symm, hm, Bool.eq_iff_iff, List.contains_iff_mem, upU_mem, decide_eq_true_iff]
  rintro H2 ⟨ms, s2, h2, ml, mb⟩
  have h12 := s2 _ _ h1
  have ml' : ms.length = bars pl.sts + 1 := by omega
  refine ⟨_, rfl, l1, rfl, ⟨_, SqL.of h12⟩, fun L hL => lc_list (K := K) (a := l1) (xs := ivs es) (fun i H' => ∃ ns, Same H2 H' ∧ H' L = some (.lst (nvs ns)) ∧ ns.length = i ∧ ∀ q < i, ∀ j < es.length, (gM ns q).testBit j = bsB es [] q j) ?_ ?_ ?_ ?_⟩
  · exact ⟨[], same_new hL, upd_same, rfl, fun q hq => absurd hq (Nat.not_lt_zero _)⟩
  · rintro i H' _ ⟨ns, s3, _⟩
    exact SqL.of (s3 _ _ h12)
  · rintro i y H3 hy ⟨ns, s3, h3, nl, nb⟩
    have il : i < es.length := by rw [← ivs_len]; exact (List.getElem?_eq_some_iff.mp hy).1
    rw [gE_get il] at hy
    cases hy
    obtain ⟨e, ee, eb⟩ := rk i il
    rw [ee]
    have el : e < ms.length := by omega
    refine ⟨rfl, _, rfl, _, rfl, D, _, _, _, rfl, rfl, .inl (s3 _ _ h2), atI_nat (nvs_gM el), _, h3, szl (by rw [nvs_len]; omega), ns ++ [gM ms e], same_mut s3 hL, by rw [upd_same, nvs_snoc], by rw [List.length_append, nl]; rfl, fun q hq j hj => ?_⟩
    rw [gM_snoc]
    rcases Nat.lt_or_ge q i with c | c
    · rw [if_pos (by omega)]
      exact nb q c j hj
    · have : q = i := by omega
      subst this
      rw [if_neg (by omega), if_pos nl.symm, mb e (by omega)]
      unfold bsB
      rw [ee]
      simp [hj]
  rintro H3 ⟨ns, s3, h3, nl, nb⟩
  rw [ivs_len] at nl nb
  have S3 := s1.trans (s2.trans s3)
  have nL : H L = none := (s1.trans s2).free hL
  refine ⟨_, rfl, !xs.isEmpty, .inl ⟨xs, SqL.of (S3 _ _ ha), rfl⟩, ?_⟩
  cases xs with
  | nil =>
    cases hp
    refine iteT ⟨_, rfl, k L H3 ns S3 nL h3 nl fun i hi j hj => ?_⟩
    rw [wB_nil]
    exact nb i hi j hj
  | cons v0 vr =>
    refine iteF ?_
    generalize v0 :: vr = xs at ha hp xl
    refine ⟨_, rfl, a, rfl, ⟨xs, SqL.of (S3 _ _ ha)⟩, for_list (K := K) (a := a) (xs := xs) (fun i σ' H' => ∃ v5 v6 ms, σ' = [some x, some (.ref a), some (.ref l1), some (.ref D), some (.ref L), v5, v6, none, none, none, none] ∧ Same H H' ∧ H' L = some (.lst (nvs ms)) ∧ ms.length = es.length ∧ ∀ q < es.length, ∀ j < es.length, (gM ms q).testBit j = bsB es (Dl.take i) q j) ?_ ?_ ?_ ?_⟩
    · exact ⟨_, _, ns, rfl, S3, h3, nl, fun q hq j hj => by rw [List.take_zero]; exact nb q hq j hj⟩
    · rintro i σ' H' _ ⟨v5, v6, ms, rfl, s4, _⟩
      exact SqL.of (s4 _ _ ha)
    · rintro i u σ' H4 hu ⟨v5, v6, ms, rfl, s4, h4, ml, mb⟩
      obtain ⟨d, hd, t, rfl, ht⟩ := paired_get (pairs_same s4 hp) hu
      obtain ⟨b1, b2⟩ := db d (List.mem_of_getElem? hd)
      refine ⟨t, _, rfl, SqT.of ht, rfl, _, _, rfl, _, _, rfl, rfl, ?_⟩
      refine ⟨_, rfl, _, rfl, L, _, d.1, _, rfl, rfl, h4, nvs_gM (by omega), _, rfl, _, _, rfl, rfl, ⟨by omega, by omega, by decide⟩, _, _, rfl, rfl, L, _, ((d.1 : Nat) : Int), d.1, rfl, rfl, h4, ?_, ?_⟩
      · unfold ixN
        rw [if_pos (by omega), if_pos (by rw [nvs_len]; omega), Int.toNat_natCast]
      · show ∃ v5 v6 ms', _ ∧ Same H (upd H4 L (.lst ((nvs ms).set d.1 (.int (Builtin.bitOr ((gM ms d.1 : Nat) : Int) (1 * 2 ^ (((d.2 : Nat) : Int)).toNat)))))) ∧ _
        have up : (upd H4 L (.lst ((nvs ms).set d.1 (.int (Builtin.bitOr ((gM ms d.1 : Nat) : Int) (1 * 2 ^ (((d.2 : Nat) : Int)).toNat)))))) L = some (.lst (nvs (ms.set d.1 (gM ms d.1 ||| 2 ^ d.2)))) := by
          rw [upd_same, shl_one, or_nat, nvs_set]
        refine ⟨_, _, ms.set d.1 (gM ms d.1 ||| 2 ^ d.2), rfl, same_mut s4 nL, up, by rw [List.length_set, ml], fun q hq j hj => ?_⟩
        have tk : Dl.take (i + 1) = Dl.take i ++ [d] := by rw [List.take_add_one, hd]; rfl
        rw [gM_set (by omega), tk]
        by_cases c : q = d.1
        · subst c
          rw [if_pos rfl, Nat.testBit_or, mb _ hq j hj, Nat.testBit_two_pow]
          unfold bsB
          rw [Bool.eq_iff_iff]
          simp only [Bool.or_eq_true, decide_eq_true_eq, List.contains_iff_mem, List.mem_append, List.mem_singleton]
          constructor
          · rintro ((h | h) | h)
            · exact .inl h
            · exact .inr (.inl h)
            · exact .inr (.inr (by rw [← h]))
          · rintro (h | h | h)
            · exact .inl (.inl h)
            · exact .inl (.inr h)
            · exact .inr (by rw [← h])
        · rw [if_neg c, mb q hq j hj]
          unfold bsB
          rw [Bool.eq_iff_iff]
          simp only [Bool.or_eq_true, decide_eq_true_eq, List.contains_iff_mem, List.mem_append, List.mem_singleton]
          constructor
          · rintro (h | h)
            · exact .inl h
            · exact .inr (.inl h)
          · rintro (h | h | h)
            · exact .inl h
            · exact .inr h
            · exact absurd (by rw [← h]) c
    · rintro σ' H4 ⟨v5, v6, ms0, rfl, s4, h4, ml0, mb⟩
      rw [← xl.symm, List.take_of_length_le (by omega)] at mb
      refine ⟨_, rfl, L, _, rfl, .inl h4, _, rfl, by rw [nvs_len]; omega, by rw [nvs_len]; omega, for_range (lo := 0) (fun q σ' H' => ∃ L ms v7, σ' = [some x, some (.ref a), some (.ref l1), some (.ref D), some (.ref L), v5, v6, v7, none, none, none] ∧ Same H H' ∧ H L = none ∧ H' L = some (.lst (nvs ms)) ∧ ms.length = es.length ∧ ∀ i < es.length, ∀ j < es.length, (gM ms i).testBit j = wB es Dl q i j) ?_ ?_ ?_⟩
      · exact ⟨L, ms0, _, rfl, s4, nL, h4, ml0, mb⟩
      · rintro q σ' H5 hq ⟨L', ms, v7, rfl, s5, nL', h5, ml, mb⟩
        have ql : q < es.length := by rw [nvs_len] at hq; omega
        refine ⟨_, rfl, L', rfl, ⟨_, SqL.of h5⟩, fun M hM => lc_list (K := K) (a := L') (xs := nvs ms) (fun i H' => Same H5 H' ∧ H' M = some (.lst (nvs ((ms.map fun m => if m.testBit q = true then m ||| gM ms q else m).take i)))) ?_ ?_ ?_ ?_⟩
        · exact ⟨same_new hM, upd_same⟩
        · rintro i H' _ ⟨s6, _⟩
          exact SqL.of (s6 _ _ h5)
        · rintro i y H6 hy ⟨s6, h6⟩
          obtain ⟨il, rfl⟩ := nvs_lt hy
          refine ⟨rfl, _, rfl, _, rfl, q, ms[i], by rw [Int.zero_add], _, rfl, ?_⟩
          have fin : ∀ m : Nat, (if ms[i].testBit q = true then ms[i] ||| gM ms q else ms[i]) = m → ∃ acc, H6 M = some (.lst acc) ∧ acc.length < sizeLine ∧ Same H5 (upd H6 M (.lst (acc ++ [.int ((m : Nat) : Int)]))) ∧ (upd H6 M (.lst (acc ++ [.int ((m : Nat) : Int)]))) M = some (.lst (nvs ((ms.map fun m => if m.testBit q = true then m ||| gM ms q else m).take (i + 1)))) := fun m em => by
            refine ⟨_, h6, szl (by rw [nvs_len, List.length_take, List.length_map]; omega), same_mut s6 hM, ?_⟩
            rw [upd_same, List.take_add_one, List.getElem?_map, List.getElem?_eq_getElem il]
            show _ = some (HO.lst (nvs (_ ++ [if ms[i].testBit q = true then ms[i] ||| gM ms q else ms[i]])))
            rw [nvs_snoc, em]
          cases c : ms[i].testBit q with
          | true =>
            refine iteT ⟨_, rfl, _, rfl, _, rfl, L', _, _, _, rfl, rfl, .inl (s6 _ _ h5), at_of (Int.zero_add _) (nvs_gM (by omega)), _, _, rfl, rfl, ?_⟩
            have f := fin (ms[i] ||| gM ms q) (by rw [c, if_pos rfl])
            rw [← or_nat] at f
            exact f
          | false => exact iteF ⟨_, rfl, fin ms[i] (by rw [c, if_neg (by decide)])⟩
        · rintro H6 ⟨s6, h6⟩
          rw [nvs_len, List.take_of_length_le (by rw [List.length_map]; exact Nat.le_refl _)] at h6
          refine ⟨M, _, _, rfl, s5.trans s6, s5.free hM, h6, by rw [List.length_map, ml], fun i hi j hj => ?_⟩
          have e := gM_map (f := fun m => if m.testBit q = true then m ||| gM ms q else m) (ms := ms) (i := i) (by omega)
          rw [e]
          show (if (gM ms i).testBit q = true then gM ms i ||| gM ms q else gM ms i).testBit j = (wB es Dl q i j || (wB es Dl q i q && wB es Dl q q j))
          rw [← mb i hi j hj, ← mb i hi q ql, ← mb q ql j hj]
          cases c : (gM ms i).testBit q with
          | true =>
            rw [if_pos rfl, Nat.testBit_or]
            rfl
          | false =>
            rw [if_neg (by decide)]
            simp
      · rintro σ' H5 ⟨L', ms, v7, rfl, s5, nL', h5, ml, mb⟩
        rw [nvs_len, show ((ms0.length : Nat) : Int).toNat = es.length by omega] at mb
        exact ⟨_, rfl, k L' H5 ms s5 nL' h5 ml mb⟩
end
end Af

set_option Elab.async false
set_option linter.all false
set_option maxRecDepth 100000
set_option maxHeartbeats 4000000
namespace Af
open PySem L2
theorem pe_idxK {X : Cx} {K : PySem.W.Frag} {o e : Expr} {es : List Expr} {to : TE} {t : TA} {apos cpos : Pos} (hK : X.K = K) (ho : PE X o to) (ha : PA X (e :: es) t)
    (hbase : attributeBase o "index" X.env (eval o X.env) = eval o X.env := by rfl)
    (hfew : ((backTo cpos (starEach (e :: es) X.env)).all (fun x => !x.1) && (backToKw cpos (keywordEach [] X.env)).all (fun x => x.1.isSome)
      && decide ((e :: es).length + ([] : List Keyword).length + (if ([] : List Keyword).isEmpty then 0 else 1) < 30)) = true := by rfl)
    (hline : (apos.endLine == cpos.line) = true := by rfl) (hs : starEach (e :: es) X.env = (false, eval e X.env) :: starEach es X.env := by rfl) (hplain : (backTo cpos (starEach es X.env)).any (·.1) = false := by rfl) :
    PE X (.Call (.Attribute o "index" apos) (e :: es) [] cpos) (tBM K "list" (rIndex K) to t) := by
  subst hK
  exact pe_bm PySem.F.plainAttrs_list PySem.F.slot_list_index PySem.F.type_list_index mt_index ho ha hbase hfew hline hs hplain
theorem idx_some {ls : List Nat} {x : Nat} (h : x ∈ ls) : ls.idxOf x < ls.length ∧ ls[ls.idxOf x]? = some x ∧ ∀ m z, m < ls.idxOf x → ls[m]? = some z → z ≠ x := by
  have l := List.idxOf_lt_length_of_mem h
  refine ⟨l, by rw [List.getElem?_eq_getElem l, List.getElem_idxOf], fun m z hm hz e => ?_⟩
  have ml : m < ls.length := by omega
  rw [List.getElem?_eq_getElem ml] at hz
  have e2 : ls[m] = x := by rw [Option.some.inj hz, e]
  have := List.not_of_lt_findIdx (p := (· == x)) (xs := ls) (i := m) hm
  rw [e2] at this
  simp at this
theorem take_idx {ls : List Nat} {x y : Nat} (hx : x ∈ ls) (hy : y ∈ ls) : x ∈ ls.take (ls.idxOf y) ↔ ls.idxOf x < ls.idxOf y := by
  obtain ⟨x1, x2, x3⟩ := idx_some hx
  obtain ⟨y1, y2, y3⟩ := idx_some hy
  constructor
  · intro m
    obtain ⟨i, hi⟩ := List.mem_iff_getElem?.mp m
    rw [List.getElem?_take] at hi
    by_cases c : i < ls.idxOf y
    · rw [if_pos c] at hi
      rcases Nat.lt_or_ge i (ls.idxOf x) with d | d
      · exact absurd rfl (x3 i x d hi)
      · omega
    · rw [if_neg c] at hi
      cases hi
  · intro h
    refine List.mem_iff_getElem?.mpr ⟨ls.idxOf x, ?_⟩
    rw [List.getElem?_take, if_pos h, x2]
theorem idx_ne {ls : List Nat} {x y : Nat} (hx : x ∈ ls) (hy : y ∈ ls) (n : x ≠ y) : ls.idxOf x ≠ ls.idxOf y := fun e => by
  obtain ⟨_, x2, _⟩ := idx_some hx
  obtain ⟨_, y2, _⟩ := idx_some hy
  rw [e, y2] at x2
  exact n (Option.some.inj x2).symm
/-- what may_begin asks of a pair, what the law asks -/
def mayP (ls : List Nat) (d : Nat × Nat) : Bool := ls.contains d.2 && !(ls.take (ls.idxOf d.2)).contains d.1
def mayB (G : List Nat) (D : List (Nat × Nat)) (ls : List Nat) : Bool := !G.any (fun g => ls.contains g) && !D.any (mayP ls)
def fitP (T G : List Nat) (D : List (Nat × Nat)) (ls : List Nat) : Bool := (T.all (fun x => ls.contains x) && (parts D).all fun x => ls.contains x) && mayB G D ls
def lawP (ls : List Nat) (d : Nat × Nat) : Bool := ls.contains d.1 && (ls.contains d.2 && !decide (ls.idxOf d.2 < ls.idxOf d.1))
def fitL (T G : List Nat) (D : List (Nat × Nat)) (ls : List Nat) : Bool := (T.all (fun x => ls.contains x) && !G.any (fun g => ls.contains g)) && D.all (lawP ls)
theorem fit_same {T G : List Nat} {D : List (Nat × Nat)} {ls : List Nat} (ne : ∀ d ∈ D, d.1 ≠ d.2) : fitP T G D ls = fitL T G D ls := by
  unfold fitP fitL mayB
  cases hT : T.all (fun x => ls.contains x) with
  | false => rfl
  | true =>
    cases hG : G.any (fun g => ls.contains g) with
    | true => simp
    | false =>
      rw [Bool.true_and, Bool.true_and, Bool.not_false, Bool.true_and, Bool.true_and, Bool.eq_iff_iff, Bool.and_eq_true, Bool.not_eq_true', List.any_eq_false, List.all_eq_true, List.all_eq_true]
      constructor
      · rintro ⟨h1, h2⟩ d hd
        have m1 : d.1 ∈ ls := List.contains_iff_mem.mp (h1 d.1 (parts_mem.mpr ⟨d, hd, .inl rfl⟩))
        have m2 : d.2 ∈ ls := List.contains_iff_mem.mp (h1 d.2 (parts_mem.mpr ⟨d, hd, .inr rfl⟩))
        have h := h2 d hd
        unfold mayP at h
        unfold lawP
        rw [List.contains_iff_mem.mpr m1, List.contains_iff_mem.mpr m2]
        rw [List.contains_iff_mem.mpr m2, Bool.true_and] at h
        have lt : ls.idxOf d.1 < ls.idxOf d.2 := (take_idx m1 m2).mp (by simpa using h)
        rw [decide_eq_false (by omega)]
        rfl
      · intro h
        have mm : ∀ d ∈ D, d.1 ∈ ls ∧ d.2 ∈ ls ∧ ¬ ls.idxOf d.2 < ls.idxOf d.1 := fun d hd => by
          have q := h d hd
          unfold lawP at q
          rw [Bool.and_eq_true, Bool.and_eq_true, Bool.not_eq_true'] at q
          exact ⟨List.contains_iff_mem.mp q.1, List.contains_iff_mem.mp q.2.1, of_decide_eq_false q.2.2⟩
        refine ⟨fun x hx => ?_, fun d hd => ?_⟩
        · obtain ⟨d, hd, e⟩ := parts_mem.mp hx
          obtain ⟨m1, m2, _⟩ := mm d hd
          rcases e with rfl | rfl
          · exact List.contains_iff_mem.mpr m1
          · exact List.contains_iff_mem.mpr m2
        · obtain ⟨m1, m2, m3⟩ := mm d hd
          have := idx_ne m1 m2 (ne d hd)
          have t := (take_idx m1 m2).mpr (by omega)
          unfold mayP
          rw [List.contains_iff_mem.mpr t]
          simp
theorem idx_facts {ls : List Nat} {x : Nat} (m : x ∈ ls) : (nvs ls)[ls.idxOf x]? = some (.int ((x : Nat) : Int)) ∧ eqV (.int ((x : Nat) : Int)) (.int ((x : Nat) : Int)) = true ∧ ∀ (k : Nat) (z' : V), k < ls.idxOf x → (nvs ls)[k]? = some z' → eqV z' (.int ((x : Nat) : Int)) = false := by
  obtain ⟨i1, i2, i3⟩ := idx_some m
  have z : ls[ls.idxOf x] = x := by rw [List.getElem?_eq_getElem i1] at i2; exact Option.some.inj i2
  refine ⟨?_, ?_, fun k z' hk hz => ?_⟩
  · rw [nvs_get i1, z]
  · show ((x : Int) == (x : Int)) = true
    exact beq_self_eq_true _
  · obtain ⟨kl, rfl⟩ := nvs_lt hz
    have := i3 k ls[k] hk (List.getElem?_eq_getElem kl)
    show (((ls[k] : Nat) : Int) == (x : Int)) = false
    rw [beq_eq_false_iff_ne]
    omega
def sp_is_claims (C : Addr) : Sp := fun vs H Q _ => ∃ (x v : V) (pl : Pl) (sl ql el : Addr) (Tl Gl : List Nat) (Dl : List (Nat × Nat)) (t g d : Addr), vs = [x, v] ∧ PlanF C H x pl sl ql el ∧ ClV H v Tl Gl Dl t g d ∧ Cl (rkP pl) Tl Gl Dl ∧ ∀ H', Same H H' → Q (.bl true) H'
def sp_check_claims (C : Addr) : Sp := fun vs H Q _ => ∃ (x v : V) (pl : Pl) (sl ql el : Addr) (Tl Gl : List Nat) (Dl : List (Nat × Nat)) (t g d : Addr), vs = [x, v] ∧ PlanF C H x pl sl ql el ∧ ClV H v Tl Gl Dl t g d ∧ Cl (rkP pl) Tl Gl Dl ∧ ∀ H', Same H H' → Q .non H'
theorem any_map {α : Type} (f : α → Bool) (l : List α) : (l.map f).any id = l.any f := by simp
theorem all_map {α : Type} (f : α → Bool) (l : List α) : (l.map f).all id = l.all f := by simp
section
variable {P : Program} {w : World} {K : PySem.W.Frag} {mg : Str → Option Value} {base : Heap}
end
end Af

set_option Elab.async false
set_option linter.all false
set_option maxRecDepth 100000
set_option maxHeartbeats 4000000
namespace Af
open PySem L2
abbrev s_l_some : Stmt := top 66
abbrev N_l_some : List Str := ["_law_pen_here", "_law_pool", "_law_most", "_law_rest", "_law_turn"]
theorem sc_l_some : FnScope N_l_some ["_law_pen_here", "_law_pool", "_law_most"] (defScope s_l_some) := ⟨rfl, rfl, rfl, by decide +kernel, rfl, by decide +kernel, by decide +kernel⟩

theorem pe_popK {X : Cx} {K : PySem.W.Frag} {o e : Expr} {es : List Expr} {to : TE} {t : TA} {apos cpos : Pos} (hK : X.K = K) (ho : PE X o to) (ha : PA X (e :: es) t)
    (hbase : attributeBase o "pop" X.env (eval o X.env) = eval o X.env := by rfl)
    (hfew : ((backTo cpos (starEach (e :: es) X.env)).all (fun x => !x.1) && (backToKw cpos (keywordEach [] X.env)).all (fun x => x.1.isSome)
      && decide ((e :: es).length + ([] : List Keyword).length + (if ([] : List Keyword).isEmpty then 0 else 1) < 30)) = true := by rfl)
    (hline : (apos.endLine == cpos.line) = true := by rfl) (hs : starEach (e :: es) X.env = (false, eval e X.env) :: starEach es X.env := by rfl) (hplain : (backTo cpos (starEach es X.env)).any (·.1) = false := by rfl) :
    PE X (.Call (.Attribute o "pop" apos) (e :: es) [] cpos) (tBM K "list" rPopAt to t) := by
  subst hK
  exact pe_bm PySem.F.plainAttrs_list PySem.F.slot_list_pop PySem.F.type_list_pop mt_popAt ho ha hbase hfew hline hs hplain
theorem eraseV {α : Type} : ∀ (l : List α) (n : Nat) (h : n < l.length), (l[n] :: l.eraseIdx n).Perm l
  | [], _, h => absurd h (Nat.not_lt_zero _)
  | _ :: _, 0, _ => List.Perm.refl _
  | a :: l, n + 1, h => (List.Perm.swap a _ _).trans ((eraseV l n (Nat.lt_of_succ_lt_succ h)).cons a)
theorem paired_perm {α β : Type} {R : α → β → Prop} {a b : List α} (p : a.Perm b) : ∀ {l : List β}, Paired R b l → ∃ l', Paired R a l' ∧ l'.Perm l := by
  induction p with
  | nil => intro l h; exact ⟨l, h, List.Perm.refl _⟩
  | cons x _ ih =>
    intro l h
    cases h with
    | cons r t =>
      obtain ⟨l', h1, h2⟩ := ih t
      exact ⟨_ :: l', .cons r h1, h2.cons _⟩
  | swap x y l0 =>
    intro l h
    cases h with
    | cons r t =>
      cases t with
      | cons r2 t2 => exact ⟨_, .cons r2 (.cons r t2), List.Perm.swap _ _ _⟩
  | trans _ _ ih1 ih2 =>
    intro l h
    obtain ⟨l1, h1, p1⟩ := ih2 h
    obtain ⟨l2, h2, p2⟩ := ih1 h1
    exact ⟨l2, h2, p2.trans p1⟩
theorem paired_split {α β : Type} {R : α → β → Prop} : ∀ {a b : List α} {l : List β}, Paired R (a ++ b) l → ∃ l1 l2, l = l1 ++ l2 ∧ Paired R a l1 ∧ Paired R b l2
  | [], _, l, h => ⟨[], l, rfl, .nil, h⟩
  | x :: a, b, _, .cons r t => by
    obtain ⟨l1, l2, e, h1, h2⟩ := paired_split t
    exact ⟨_ :: l1, l2, by rw [e]; rfl, .cons r h1, h2⟩
def NatV (x : V) (p : Nat) : Prop := x = .int ((p : Nat) : Int)
theorem paired_nvs : ∀ ps : List Nat, Paired NatV (nvs ps) ps
  | [] => .nil
  | p :: ps => .cons rfl (paired_nvs ps)
theorem nvs_paired : ∀ {xs : List V} {ps : List Nat}, Paired NatV xs ps → xs = nvs ps
  | _, _, .nil => rfl
  | _, _, .cons r t => by
    have e : _ = V.int _ := r
    rw [e, nvs_paired t]
    rfl
def sp_someV : Sp := fun vs H Q _ => ∃ (q : Pn) (m : Nat) (c : Addr) (xs : List V) (most : Int), vs = [.ref q.p, .ref c, .int most] ∧ Pen q m H ∧ m + 101 < 1000000000000 ∧ H c = some (.lst xs) ∧ xs.length ≤ 1000 ∧ 0 ≤ most ∧ most ≤ 100 ∧
  ∀ l H' ys rest, Go q (m + 101) H H' → H l = none → H' l = some (.lst ys) → (ys ++ rest).Perm xs → (ys.length : Int) ≤ most → Q (.ref l) H'
section
variable {P : Program} {w : World} {K : PySem.W.Frag} {mg : Str → Option Value} {base : Heap}
theorem ok_someV {f : Addr} {fd : FuncData} (F : Fun K "_law_some" "_law_some" s_l_some f fd) (T : Txt mg) (c_l_draw : Cal P w K mg base 2 "_law_draw" ["_law_pen_here", "_law_under"] sp_draw) : FnOk P w K mg base CX0 3 f fd ["_law_pen_here", "_law_pool", "_law_most"] sp_someV := by
  refine F.ok sc_l_some (fun vs H Q E h => ?_) (fun cdv A outer s H vs Q E hr h => ?_)
  · obtain ⟨_, _, _, _, _, rfl, _⟩ := h
    rfl
  obtain ⟨q, m, c, xs, most, rfl, pn, hm, hc, lc, m0, m1, k⟩ := h
  refine ⟨_, (pss_cons (ps_set (i := 3) sc_l_some.nd rfl (Or.inr rfl) (pe_callTy call_list' (by rfl) T.list (by decide +kernel) (pa_cons (pv 1) pa_nil)))
    (pss_one (ps_ret (pe_lc (own := [("_law_turn", 4)]) (g := (gName 4)) (tt := tYes) rfl sc_l_some.nd (pi_range1 rfl T.range (pa_cons (pe_cal c_l_draw hr (pa_cons (pv 0) (pa_cons (pe_op op_add (pe_callB (call_min2 rfl) (by rfl) T.min (by decide +kernel) (pa_cons (pv 2) (pa_cons (pe_callB call_len' (by rfl) T.len (by decide +kernel) (pa_cons (pv 3) pa_nil)) pa_nil))) pe_int) pa_nil))) pa_nil)) (blkOk_by (own := [("_law_turn", 4)]) (N := N_l_some) (sc := defScope s_l_some) (by decide +kernel)) (fun _ _ _ _ _ => pg_name (i := 4) sc_l_some.nd rfl (Or.inl rfl)) (fun _ _ _ _ _ => pts_nil) (fun _ _ _ _ _ => (pe_popK (K := K) rfl (pv 3) (pa_cons (pe_cal c_l_draw hr (pa_cons (pv 0) (pa_cons (pe_callB call_len' (by rfl) T.len (by decide +kernel) (pa_cons (pv 3) pa_nil)) pa_nil))) pa_nil))))))), ?_⟩
  refine ⟨_, rfl, c, _, rfl, .inl hc, fun r H1 n1 s1 h1 => ?_⟩
  have pn1 := pn.same s1
  have nr := pn.free n1
  refine ⟨_, rfl, _, rfl, _, rfl, r, _, rfl, .inl h1, ?_⟩
  obtain ⟨mn, hmn, mn0, mn1, mn2, mn3⟩ : ∃ mn : Int, (if ((xs.length : Nat) : Int) < most then ((xs.length : Nat) : Int) else most) = mn ∧ 0 ≤ mn ∧ mn ≤ (xs.length : Int) ∧ mn ≤ 100 ∧ mn ≤ most := by
    by_cases z : ((xs.length : Nat) : Int) < most
    · exact ⟨_, if_pos z, by omega, by omega, by omega, by omega⟩
    · exact ⟨_, if_neg z, by omega, by omega, by omega, by omega⟩
  refine ⟨_, _, rfl, ?_⟩
  rw [hmn]
  refine ⟨_, _, rfl, rfl, q, m, _, rfl, by omega, by omega, pn1, by omega, fun d H2 d0 d1 g2 => ⟨_, rfl, by omega, by omega, fun D hD => ?_⟩⟩
  have g2' : Go q (m + 1) H H2 := (Go.of pn s1).trans g2
  have hr2 := g2.kp.lst nr.1 h1
  have nD : H D = none := g2'.none pn hD
  have rD : r ≠ D := fun z => by rw [← z, hr2] at hD; cases hD
  refine lc_range (lo := 0) (fun i H' => ∃ rs rest, Go q (m + 1 + i) H H' ∧ H' D = some (.lst rs) ∧ H' r = some (.lst rest) ∧ (rs ++ rest).Perm xs ∧ rs.length = i) ?_ ?_ ?_
  · exact ⟨[], xs, Go.mut pn nD g2', upd_same, by rw [upd_ne rD]; exact hr2, List.Perm.refl _, rfl⟩
  · rintro i H' hi ⟨rs, rest, g, hD', hr', pe, rl⟩
    have tl : rs.length + rest.length = xs.length := by rw [← List.length_append]; exact pe.length_eq
    have ri : 0 < rest.length := by omega
    refine ⟨rfl, _, rfl, .inl ⟨rfl, _, SqL.of hr'⟩, _, rfl, _, rfl, r, _, rfl, .inl hr', q, _, _, rfl, by omega, by omega, g.pen, by omega, fun e H3 e0 e1 g3 => ?_⟩
    obtain ⟨n, rfl⟩ := Int.eq_ofNat_of_zero_le e0
    have nl : n < rest.length := by omega
    have hr3 := g3.kp.lst nr.1 hr'
    have hD3 := g3.kp.lst (pn.free nD).1 hD'
    refine ⟨r, rest, (n : Int), n, rest[n], rfl, rfl, hr3, by omega, by omega, ?_, List.getElem?_eq_getElem nl, ?_⟩
    · unfold seqIndex?
      rw [if_neg (show ¬ (n : Int) < 0 by omega)]
      rw [if_pos (by rw [decide_eq_true (show (0 : Int) ≤ (n : Int) by omega), decide_eq_true (show (n : Int) < (rest.length : Int) by omega)]; rfl)]
      rfl
    refine ⟨_, by rw [upd_ne rD.symm]; exact hD3, szl (by omega), rs ++ [rest[n]], rest.eraseIdx n, ?_, upd_same, ?_, ?_, by rw [List.length_append, rl]; rfl⟩
    · exact (Go.mut pn nD (Go.mut pn n1 (g.trans g3))).mono (by omega)
    · rw [upd_ne rD, upd_same]
    · refine List.Perm.trans ?_ pe
      rw [List.append_assoc]
      exact (eraseV rest n nl).append_left rs
  · rintro H3 ⟨rs, rest, g, hD', hr', pe, rl⟩
    exact k D H3 rs rest (g.mono (by omega)) nD hD' pe (by omega)
end
end Af

set_option Elab.async false
set_option linter.all false
set_option maxRecDepth 100000
set_option maxHeartbeats 4000000
namespace Af
open PySem L2
/-! drawn claims -/
theorem gM_mem {fs : List Nat} {i : Nat} (h : i < fs.length) : gM fs i ∈ fs := by rw [← gM_get h]; exact List.getElem_mem h
theorem gM_inj {fs : List Nat} (n : fs.Nodup) {i j : Nat} (hi : i < fs.length) (hj : j < fs.length) (e : gM fs i = gM fs j) : i = j := by
  rw [← gM_get hi, ← gM_get hj] at e
  rcases Nat.lt_trichotomy i j with c | c | c
  · exact absurd e (List.pairwise_iff_getElem.mp n i j hi hj c)
  · exact c
  · exact absurd e.symm (List.pairwise_iff_getElem.mp n j i hj hi c)
theorem idx_gM {fs : List Nat} (n : fs.Nodup) {i : Nat} (hi : i < fs.length) : fs.idxOf (gM fs i) = i := by
  obtain ⟨a, b, _⟩ := idx_some (gM_mem hi)
  refine gM_inj n a hi ?_
  rw [← gM_get a]
  rw [List.getElem?_eq_getElem a] at b
  exact Option.some.inj b
/-- numbers that rise along a fall's pairs and the epochs -/
def keyF (es : List Int) (fs : List Nat) (i : Nat) : Int := gE es i * 100 + (if i ∈ fs then ((fs.idxOf i : Nat) : Int) else 50)
theorem rise_of {es : List Int} {fs : List Nat} {D : List (Nat × Nat)} (lw : lawB es fs = true) (fl : fs.length ≤ 60) (fb : ∀ p ∈ fs, p < es.length) (hD : ∀ d ∈ D, ∃ i j, i < j ∧ j < fs.length ∧ d = (gM fs i, gM fs j)) : Rise es D (keyF es fs) := by
  have lw' := lawB_iff.mp lw
  have nd := before_nodup fun k hk => (lw' k hk).1
  have bd : ∀ i, 0 ≤ (if i ∈ fs then ((fs.idxOf i : Nat) : Int) else 50) ∧ (if i ∈ fs then ((fs.idxOf i : Nat) : Int) else 50) < 100 := fun i => by
    by_cases c : i ∈ fs
    · have := (idx_some c).1
      rw [if_pos c]
      omega
    · rw [if_neg c]
      omega
  intro i j h hi hj
  unfold bsB at h
  rw [Bool.or_eq_true, decide_eq_true_iff, List.contains_iff_mem] at h
  unfold keyF
  have bi := bd i
  have bj := bd j
  rcases h with h | h
  · omega
  · obtain ⟨a, b, ab, bl, e⟩ := hD _ h
    cases e
    have al : a < fs.length := by omega
    rw [if_pos (gM_mem al), if_pos (gM_mem bl), idx_gM nd al, idx_gM nd bl]
    have le : gE es (gM fs a) ≤ gE es (gM fs b) := by
      rcases Int.lt_or_le (gE es (gM fs b)) (gE es (gM fs a)) with c | c
      · have m := (lw' a al).2 (gM fs b) hj (by rw [gM_get al]; exact c)
        obtain ⟨x, hx⟩ := List.mem_iff_getElem?.mp m
        rw [List.getElem?_take] at hx
        by_cases d : x < a
        · rw [if_pos d] at hx
          have xl : x < fs.length := by omega
          rw [List.getElem?_eq_getElem xl, gM_get xl] at hx
          have := gM_inj nd xl bl (Option.some.inj hx)
          omega
        · rw [if_neg d] at hx
          cases hx
      · exact c
    omega
theorem strict_of {l : List Int} (h : l.Pairwise (· ≤ ·)) (n : l.Nodup) : l.Pairwise (· < ·) := by
  refine List.Pairwise.imp₂ (fun a b h1 h2 => ?_) h n
  omega
/-- what a thing is as a pair -/
def kP (H : Hp) (x : V) : Int × Int := match x with
  | .ref t => match H t with
    | some (.tup [.int i, .int j]) => (i, j)
    | _ => (0, 0)
  | _ => (0, 0)
theorem kP_of {H : Hp} {x : V} {d : Nat × Nat} (h : PairV H x d) : kP H x = (((d.1 : Nat) : Int), ((d.2 : Nat) : Int)) := by
  obtain ⟨t, rfl, e⟩ := h
  unfold kP
  simp only [e]
theorem lexP {H : Hp} : ∀ {xs : List V} {D : List (Nat × Nat)}, Paired (PairV H) xs D → xs.Pairwise (fun x y => ltP (kP H) y x = false) → D.Nodup → D.Pairwise lexL
  | _, _, .nil, _, _ => .nil
  | _, _, @Paired.cons _ _ _ x d xs D r t, hs, hn => by
    obtain ⟨h1, h2⟩ := List.pairwise_cons.mp hs
    obtain ⟨n1, n2⟩ := List.nodup_cons.mp hn
    refine List.pairwise_cons.mpr ⟨fun e he => ?_, lexP t h2 n2⟩
    obtain ⟨y, hy, hv⟩ := paired_mem' t he
    have q : SrtO.lexB (kP H y) (kP H x) = false := h1 y hy
    rw [kP_of r, kP_of hv] at q
    have q' : ¬ _ := fun z => Bool.false_ne_true (q.symm.trans (SrtO.lexB_iff.mpr z))
    dsimp only at q'
    have ne : d ≠ e := fun z => n1 (z ▸ he)
    unfold lexL
    have ne' : ¬ (d.1 = e.1 ∧ d.2 = e.2) := fun z => ne (Prod.ext z.1 z.2)
    omega
where
  paired_mem' {H : Hp} : ∀ {xs : List V} {D : List (Nat × Nat)}, Paired (PairV H) xs D → ∀ {e}, e ∈ D → ∃ y ∈ xs, PairV H y e
    | _, _, .cons r t, e, h => by
      rcases List.mem_cons.mp h with rfl | h
      · exact ⟨_, List.mem_cons_self, r⟩
      · obtain ⟨y, h1, h2⟩ := paired_mem' t h
        exact ⟨y, List.mem_cons_of_mem _ h1, h2⟩
/-- some numbers of a list, drawn and sorted -/
theorem drawn_nums {fs : List Nat} {ys rest : List V} {ns : List Int} (pe : (ys ++ rest).Perm (nvs fs)) (nd : fs.Nodup) (e : ∀ ys0, ys = ivs ys0 → ns.Perm ys0) (hs : ns.Pairwise (· ≤ ·)) : ∃ T : List Nat, ivs ns = nvs T ∧ T.Pairwise (· < ·) ∧ (∀ x ∈ T, x ∈ fs) ∧ T.length = ys.length := by
  obtain ⟨l, h1, h2⟩ := paired_perm pe (paired_nvs fs)
  obtain ⟨T0, R0, rfl, h3, h4⟩ := paired_split h1
  have ey := nvs_paired h3
  have p := e _ ey
  have nn : ∀ z ∈ ns, 0 ≤ z := fun z hz => by
    obtain ⟨x, _, rfl⟩ := List.mem_map.mp (p.mem_iff.mp hz)
    omega
  obtain ⟨T, rfl⟩ := nat_list nn
  have pT : T.Perm T0 := by
    have := (p.map Int.toNat)
    rw [List.map_map, List.map_map] at this
    have id1 : ∀ l : List Nat, l.map (Int.toNat ∘ fun p => ((p : Nat) : Int)) = l := fun l => by
      conv => rhs; rw [← List.map_id l]
      rfl
    rwa [id1, id1] at this
  have nT : T.Nodup := pT.nodup_iff.mpr ((List.nodup_append.mp (h2.nodup_iff.mpr nd)).1)
  refine ⟨T, rfl, ?_, fun x hx => h2.mem_iff.mp (List.mem_append.mpr (.inl (pT.mem_iff.mp hx))), ?_⟩
  · refine List.Pairwise.imp₂ (fun a b h1 h2 => ?_) (List.pairwise_map.mp hs) nT
    omega
  · rw [pT.length_eq, ey, nvs_len]
/-- the pairs of a fall, row by row -/
def rowF (fs : List Nat) (k : Nat) : List (Nat × Nat) := (List.range (fs.length - (k + 1))).map fun j => (gM fs k, gM fs (k + 1 + j))
def duosF (fs : List Nat) (k : Nat) : List (Nat × Nat) := (List.range k).flatMap (rowF fs)
theorem duosF_succ (fs : List Nat) (k : Nat) : duosF fs (k + 1) = duosF fs k ++ rowF fs k := by
  unfold duosF
  rw [List.range_succ, List.flatMap_append]
  simp
theorem duosF_mem {fs : List Nat} {k : Nat} {d : Nat × Nat} (h : d ∈ duosF fs k) : ∃ i j, i < k ∧ i < j ∧ j < fs.length ∧ d = (gM fs i, gM fs j) := by
  obtain ⟨i, hi, hd⟩ := List.mem_flatMap.mp h
  obtain ⟨j, hj, rfl⟩ := List.mem_map.mp hd
  have := List.mem_range.mp hi
  have := List.mem_range.mp hj
  exact ⟨i, i + 1 + j, by omega, by omega, by omega, rfl⟩
theorem rowF_nodup {fs : List Nat} (n : fs.Nodup) (k : Nat) : (rowF fs k).Nodup := by
  unfold rowF
  refine List.pairwise_map.mpr (List.Pairwise.imp_of_mem (fun {a b} ha hb ne e => ?_) List.nodup_range)
  have := List.mem_range.mp ha
  have := List.mem_range.mp hb
  have := gM_inj n (i := k + 1 + a) (j := k + 1 + b) (by omega) (by omega) (Prod.mk.inj e).2
  omega
theorem duosF_nodup {fs : List Nat} (n : fs.Nodup) : ∀ k, k ≤ fs.length → (duosF fs k).Nodup
  | 0, _ => .nil
  | k + 1, h => by
    rw [duosF_succ]
    refine List.nodup_append.mpr ⟨duosF_nodup n k (by omega), rowF_nodup n k, fun a ha b hb e => ?_⟩
    obtain ⟨i, j, ik, ij, jl, rfl⟩ := duosF_mem ha
    obtain ⟨x, hx, rfl⟩ := List.mem_map.mp hb
    have := gM_inj n (i := i) (j := k) (by omega) (by omega) (Prod.mk.inj e).1
    omega
theorem rowF_len (fs : List Nat) (k : Nat) : (rowF fs k).length = fs.length - (k + 1) := by
  unfold rowF
  rw [List.length_map, List.length_range]
theorem duosF_len (fs : List Nat) : ∀ k, (duosF fs k).length ≤ k * fs.length
  | 0 => Nat.zero_le _
  | k + 1 => by
    have := duosF_len fs k
    rw [duosF_succ, List.length_append, rowF_len, Nat.succ_mul]
    omega
def sp_claims : Sp := fun vs H Q _ => ∃ (q : Pn) (m : Nat) (a ca sa : Addr) (sp : Int) (xs : List V) (sts : List Stp), vs = [.ref q.p, .ref a] ∧ Pen q m H ∧ m + 500 < 1000000000000 ∧ H a = some (.tup [.ref ca, .int sp, .ref sa]) ∧ H sa = some (.lst xs) ∧ sa ≠ q.p ∧ Paired (StepV H) xs sts ∧ 0 < sp ∧ xs.length ≤ 90 ∧
  (∀ f ws, some (f, ws) ∈ sts → ws.length ≤ 100) ∧ (allP sp 0 sts).length ≤ 25 ∧
  ∀ v H' Tl Gl Dl t g d, Go q (m + 500) H H' → ClV H' v Tl Gl Dl t g d → t ≠ q.p → g ≠ q.p → d ≠ q.p → Cl (rnk sts (allP sp 0 sts)) Tl Gl Dl → Tl.length ≤ 2 → Gl.length ≤ 2 → Dl.length ≤ 2 → Q v H'
section
variable {P : Program} {w : World} {K : PySem.W.Frag} {mg : Str → Option Value} {base : Heap}
end
end Af

set_option Elab.async false
set_option linter.all false
set_option maxRecDepth 100000
set_option maxHeartbeats 4000000
namespace Af
open PySem L2
def sp_lfits : Sp := fun vs H Q _ => ∃ (v : V) (Tl Gl : List Nat) (Dl : List (Nat × Nat)) (t g d b : Addr) (ls : List Nat), vs = [v, .ref b] ∧ ClV H v Tl Gl Dl t g d ∧ Tl.length ≤ 20 ∧ Gl.length ≤ 20 ∧ Dl.length ≤ 20 ∧ H b = some (.lst (nvs ls)) ∧ ls.length ≤ 60 ∧ ∀ H', Same H H' → Q (.bl (fitL Tl Gl Dl ls)) H'
theorem lawP_bad {ls : List Nat} {e : Nat × Nat} {D : List (Nat × Nat)} {i : Nat} (he : D[i]? = some e) (h : lawP ls e = false) : D.all (lawP ls) = false := by
  rw [List.all_eq_false]
  exact ⟨e, List.mem_of_getElem? he, by rw [h]; decide⟩
section
variable {P : Program} {w : World} {K : PySem.W.Frag} {mg : Str → Option Value} {base : Heap}
end
end Af

set_option Elab.async false
set_option linter.all false
set_option maxRecDepth 100000
set_option maxHeartbeats 4000000
namespace Af
open PySem L2
abbrev s_misplaced_in : Stmt := top 43
abbrev N_misplaced_in : List Str := ["plan", "claims", "epoch", "piece"]
theorem sc_misplaced_in : FnScope N_misplaced_in ["plan", "claims", "epoch"] (defScope s_misplaced_in) := ⟨rfl, rfl, rfl, by decide +kernel, rfl, by decide +kernel, by decide +kernel⟩

/-- claims that no fall keeps which ends in that epoch; the pieces that surely came -/
def misB (es : List Int) (T G : List Nat) (D : List (Nat × Nat)) (r : Int) : Bool := (T ++ parts D).any (fun x => decide (r < gE es x)) || G.any (fun x => decide (gE es x < r))
def sureB (es : List Int) (T : List Nat) (D : List (Nat × Nat)) (r : Int) (x : Nat) : Bool := decide (gE es x < r) || (T ++ parts D).contains x
def sureL (es : List Int) (T : List Nat) (D : List (Nat × Nat)) (r : Int) : List Nat := (List.range es.length).filter (sureB es T D r)
theorem asc_ext : ∀ {a b : List Nat}, a.Pairwise (· < ·) → b.Pairwise (· < ·) → (∀ x, x ∈ a ↔ x ∈ b) → a = b
  | [], [], _, _, _ => rfl
  | [], y :: b, _, _, h => absurd ((h y).mpr List.mem_cons_self) (by simp)
  | x :: a, [], _, _, h => absurd ((h x).mp List.mem_cons_self) (by simp)
  | x :: a, y :: b, ha, hb, h => by
    obtain ⟨a1, a2⟩ := List.pairwise_cons.mp ha
    obtain ⟨b1, b2⟩ := List.pairwise_cons.mp hb
    have e : x = y := by
      rcases List.mem_cons.mp ((h x).mp List.mem_cons_self) with e | m
      · exact e
      · rcases List.mem_cons.mp ((h y).mpr List.mem_cons_self) with e | m'
        · exact e.symm
        · have := a1 _ m'
          have := b1 _ m
          omega
    subst e
    congr 1
    refine asc_ext a2 b2 fun z => ?_
    constructor
    · intro m
      rcases List.mem_cons.mp ((h z).mp (List.mem_cons_of_mem _ m)) with e | m'
      · have := a1 _ m
        omega
      · exact m'
    · intro m
      rcases List.mem_cons.mp ((h z).mpr (List.mem_cons_of_mem _ m)) with e | m'
      · have := b1 _ m
        omega
      · exact m'
theorem sureL_asc (es : List Int) (T : List Nat) (D : List (Nat × Nat)) (r : Int) : (sureL es T D r).Pairwise (· < ·) := List.pairwise_lt_range.filter _
theorem sureL_mem {es : List Int} {T : List Nat} {D : List (Nat × Nat)} {r : Int} {x : Nat} : x ∈ sureL es T D r ↔ x < es.length ∧ (gE es x < r ∨ x ∈ T ∨ x ∈ parts D) := by
  unfold sureL sureB
  rw [List.mem_filter, List.mem_range, Bool.or_eq_true, decide_eq_true_iff, List.contains_iff_mem, List.mem_append]
def sureU (es : List Int) (T : List Nat) (D : List (Nat × Nat)) (r : Int) (i : Nat) : List Nat := (List.range i).filter (sureB es T D r)
theorem sureU_succ (es : List Int) (T : List Nat) (D : List (Nat × Nat)) (r : Int) (i : Nat) : sureU es T D r (i + 1) = sureU es T D r i ++ (if sureB es T D r i = true then [i] else []) := by
  unfold sureU
  rw [List.range_succ, List.filter_append]
  congr 1
  rw [List.filter_cons]
  rfl
theorem sureU_len (es : List Int) (T : List Nat) (D : List (Nat × Nat)) (r : Int) (i : Nat) : (sureU es T D r i).length ≤ i := by
  have := List.length_filter_le (sureB es T D r) (List.range i)
  rw [List.length_range] at this
  exact this
/-- what is due, as a thing -/
def DueV (H : Hp) (v : V) (es : List Int) (T G : List Nat) (D : List (Nat × Nat)) (r : Int) : Prop := (misB es T G D r = true ∧ v = .non) ∨ (misB es T G D r = false ∧ ∃ l, v = .ref l ∧ H l = some (.lst (nvs (sureL es T D r))))
theorem DueV.same {H H' : Hp} {v : V} {es : List Int} {T G : List Nat} {D : List (Nat × Nat)} {r : Int} (h : DueV H v es T G D r) (s : Same H H') : DueV H' v es T G D r := by
  rcases h with ⟨a, b⟩ | ⟨a, l, b, c⟩
  · exact .inl ⟨a, b⟩
  · exact .inr ⟨a, l, b, s _ _ c⟩
def sp_must (C : Addr) : Sp := fun vs H Q _ => ∃ (x v : V) (pl : Pl) (sl ql el : Addr) (Tl Gl : List Nat) (Dl : List (Nat × Nat)) (t g d : Addr) (i j : Nat), vs = [x, v, .int (i : Nat), .int (j : Nat)] ∧ PlanF C H x pl sl ql el ∧ ClV H v Tl Gl Dl t g d ∧ Cw (rkP pl) Tl Gl Dl ∧
  i < (rkP pl).length ∧ j < (rkP pl).length ∧ ∀ H', Same H H' → Q (.bl (wB (rkP pl) Dl (rkP pl).length i j)) H'
def sp_mis (C : Addr) : Sp := fun vs H Q _ => ∃ (x v : V) (pl : Pl) (sl ql el : Addr) (Tl Gl : List Nat) (Dl : List (Nat × Nat)) (t g d : Addr) (r : Int), vs = [x, v, .int r] ∧ PlanF C H x pl sl ql el ∧ ClV H v Tl Gl Dl t g d ∧ Cw (rkP pl) Tl Gl Dl ∧
  (misB (rkP pl) Tl Gl Dl r = false → ∀ H', Same H H' → Q .non H') ∧ (misB (rkP pl) Tl Gl Dl r = true → ∀ a ys H', Same H H' → H' a = some (.tup ys) → Q (.ref a) H')
def sp_sure_in (C : Addr) : Sp := fun vs H Q _ => ∃ (x v : V) (pl : Pl) (sl ql el : Addr) (Tl Gl : List Nat) (Dl : List (Nat × Nat)) (t g d : Addr) (r : Nat), vs = [x, v, .int (r : Nat)] ∧ PlanF C H x pl sl ql el ∧ ClV H v Tl Gl Dl t g d ∧ Cw (rkP pl) Tl Gl Dl ∧ r ≤ bars pl.sts ∧
  ∀ dv H', Same H H' → DueV H' dv (rkP pl) Tl Gl Dl (r : Nat) → (∀ l, dv = .ref l → H l = none) → Q dv H'
section
variable {P : Program} {w : World} {K : PySem.W.Frag} {mg : Str → Option Value} {base : Heap}
theorem ok_mis {f C CE fI : Addr} {fd fdI : FuncData} (F : Fun K "misplaced_in" "misplaced_in" s_misplaced_in f fd) (T : Txt mg) (TC : PlanC K mg C) (M_eo : Meth K C "epoch_of" fI)
    (G_eo : FnOk P w K mg base (L2.CX P w) 3 fI fdI ["self", "piece"] (sp_epoch_of K C CE)) (b_eo : Binds K fdI ["self", "piece"] [])
    (c_claimed_there : Cal P w K mg base 1 "claimed_there" ["claims"] sp_claimed) : FnOk P w K mg base CX0 4 f fd ["plan", "claims", "epoch"] (sp_mis C) := by
  refine F.ok sc_misplaced_in (fun vs H Q E h => ?_) (fun cdv A outer s H vs Q E hr h => ?_)
  · obtain ⟨_, _, _, _, _, _, _, _, _, _, _, _, _, rfl, _⟩ := h
    rfl
  obtain ⟨x, v, pl, sl, ql, el, Tl, Gl, Dl, t, g, d, r, rfl, pF, cv, cl, k1, k2⟩ := h
  obtain ⟨a, xs, rfl, ha, ht, hg, hd, hp⟩ := cv.ex
  have xl := paired_len hp
  have epc : ∀ i, i < (rkP pl).length → ∀ i' e, V.int ((i : Nat) : Int) = V.int ((i' : Nat) : Int) → (pieceE pl.sts (allP pl.w 0 pl.sts))[i']? = some e → e = gE (rkP pl) i := fun i il i' e e1 e2 => by
    have : i' = i := by have := V.int.inj e1; omega
    subst this
    rw [pieceE_rnk] at e2
    show e = gE (rnk pl.sts (allP pl.w 0 pl.sts)) i'
    unfold gE
    rw [List.getD_eq_getElem?_getD, e2]
    rfl
  refine ⟨_, (pss_cons (ps_for PassesOwn.never rfl (pi_list (pe_cal c_claimed_there hr (pa_cons (pv 1) pa_nil))) (pg_name (i := 3) sc_misplaced_in.nd rfl (Or.inl rfl))
      (pss_one (ps_if (pt_cmpR op_gt (pe_methX (E := fun _ => E0) (pl := _) (pv 0) TC.cl M_eo G_eo (hr.mono (by decide)) b_eo (passN rfl rfl) (pa_cons (pv 3) pa_nil)) (pv 2) (nomark _))
      (pss_one (ps_ret (pe_tup' (pa_cons pe_str (pa_cons (pv 3) pa_nil)))))
      pss_nil)))
    (pss_cons (ps_for PassesOwn.never rfl (pi_list (pe_ix ix_seq' (pv 1) pe_int (fun _ _ => rfl))) (pg_name (i := 3) sc_misplaced_in.nd rfl (Or.inl rfl))
      (pss_one (ps_if (pt_cmpR op_lt (pe_methX (E := fun _ => E0) (pl := _) (pv 0) TC.cl M_eo G_eo (hr.mono (by decide)) b_eo (passN rfl rfl) (pa_cons (pv 3) pa_nil)) (pv 2) (nomark _))
      (pss_one (ps_ret (pe_tup' (pa_cons pe_str (pa_cons (pv 3) pa_nil)))))
      pss_nil)))
    (pss_one (ps_ret pe_non)))), ?_⟩
  refine ⟨_, rfl, .ref a, Tl, Gl, Dl, t, g, d, rfl, cv, cl.tl, cl.dl, fun l H1 cs s1 n1 h1 asc mem cln => ?_⟩
  have cb : ∀ c ∈ cs, c < (rkP pl).length := fun c hc => by
    rcases (mem c).mp hc with m | m
    · exact cl.tb c m
    · obtain ⟨e, he, q⟩ := parts_mem.mp m
      obtain ⟨b1, b2, _⟩ := cl.db e he
      rcases q with rfl | rfl
      · exact b1
      · exact b2
  refine ⟨l, rfl, ⟨_, SqL.of h1⟩, for_list (K := K) (a := l) (xs := nvs cs) (fun i σ' H' => ∃ v3, σ' = [some x, some (.ref a), some (.int r), v3] ∧ Same H1 H' ∧ (cs.take i).any (fun x => decide (r < gE (rkP pl) x)) = false) ?_ ?_ ?_ ?_⟩
  · exact ⟨_, rfl, Same.refl _, rfl⟩
  · rintro i σ' H' _ ⟨_, rfl, s2, _⟩
    exact SqL.of (s2 _ _ h1)
  · rintro i y σ' H2 hy ⟨v3, rfl, s2, an⟩
    obtain ⟨il, rfl⟩ := nvs_lt hy
    have ci := cb _ (List.getElem_mem il)
    have S2 := s1.trans s2
    have pF2 := pF.same S2
    obtain ⟨pa, ca, xs0, ys0, rfl, pX, _, _, hps⟩ := pF2.ex
    have yl := paired_len hps
    obtain ⟨dx, fs, hx, hM⟩ := pX.px
    have yn : ys0.length = (rkP pl).length := by rw [rkP_len]; exact yl
    refine ⟨_, rfl, pa, dx, fs, rfl, hx, hM, _, rfl, pa, ca, sl, ql, el, pl, xs0, ys0, _, "int", rfl, pX, yl, ⟨.int _, by decide, fun _ _ _ e => by cases e⟩, fun i' e e1 e2 => ?_, fun z => ?_⟩
    · rw [epc _ ci i' e e1 e2]
      have tk : (cs.take (i + 1)).any (fun x => decide (r < gE (rkP pl) x)) = decide (r < gE (rkP pl) cs[i]) := by
        rw [List.take_add_one, List.getElem?_eq_getElem il, List.any_append, an]
        show (false || (decide (r < gE (rkP pl) cs[i]) || false)) = _
        rw [Bool.or_false, Bool.false_or]
      refine ⟨_, rfl, _, _, rfl, rfl, _, rfl, ite2 (fun z => ?_) (fun z => ?_)⟩
      · have z' : r < gE (rkP pl) cs[i] := by have := of_decide_eq_true z; omega
        have m : misB (rkP pl) Tl Gl Dl r = true := by
          unfold misB
          rw [Bool.or_eq_true]
          refine .inl (List.any_eq_true.mpr ⟨cs[i], ?_, decide_eq_true z'⟩)
          exact List.mem_append.mpr ((mem _).mp (List.getElem_mem il))
        exact ⟨_, rfl, szr, fun p H3 n3 s3 h3 => k2 m p _ H3 (S2.trans s3) h3⟩
      · refine ⟨_, rfl, s2, ?_⟩
        rw [tk]
        refine decide_eq_false fun y => z (decide_eq_true (by omega))
    · rw [yn, idx_nat ci] at z
      cases z
  rintro σ' H2 ⟨v3, rfl, s2, an⟩
  have S2 := s1.trans s2
  rw [nvs_len, List.take_length] at an
  have m1 : (Tl ++ parts Dl).any (fun x => decide (r < gE (rkP pl) x)) = false := by
    rw [List.any_eq_false] at an ⊢
    exact fun y hy => an y ((mem y).mpr (List.mem_append.mp hy))
  unfold misB at k1 k2
  rw [m1, Bool.false_or] at k1 k2
  refine ⟨_, rfl, a, _, _, _, rfl, rfl, .inr (S2 _ _ ha), atI_nat (j := 1) rfl, g, rfl, ⟨_, SqL.of (S2 _ _ hg)⟩, for_list (K := K) (a := g) (xs := nvs Gl) (fun i σ' H' => ∃ v3, σ' = [some x, some (.ref a), some (.int r), v3] ∧ Same H H' ∧ (Gl.take i).any (fun x => decide (gE (rkP pl) x < r)) = false) ?_ ?_ ?_ ?_⟩
  · exact ⟨_, rfl, S2, rfl⟩
  · rintro i σ' H' _ ⟨_, rfl, s3, _⟩
    exact SqL.of (s3 _ _ hg)
  · rintro i y σ' H3 hy ⟨v3, rfl, s3, an3⟩
    obtain ⟨il, rfl⟩ := nvs_lt hy
    have ci := cl.gb _ (List.getElem_mem il)
    have pF3 := pF.same s3
    obtain ⟨pa, ca, xs0, ys0, rfl, pX, _, _, hps⟩ := pF3.ex
    have yl := paired_len hps
    obtain ⟨dx, fs, hx, hM⟩ := pX.px
    have yn : ys0.length = (rkP pl).length := by rw [rkP_len]; exact yl
    refine ⟨_, rfl, pa, dx, fs, rfl, hx, hM, _, rfl, pa, ca, sl, ql, el, pl, xs0, ys0, _, "int", rfl, pX, yl, ⟨.int _, by decide, fun _ _ _ e => by cases e⟩, fun i' e e1 e2 => ?_, fun z => ?_⟩
    · rw [epc _ ci i' e e1 e2]
      have tk : (Gl.take (i + 1)).any (fun x => decide (gE (rkP pl) x < r)) = decide (gE (rkP pl) Gl[i] < r) := by
        rw [List.take_add_one, List.getElem?_eq_getElem il, List.any_append, an3]
        show (false || (decide (gE (rkP pl) Gl[i] < r) || false)) = _
        rw [Bool.or_false, Bool.false_or]
      refine ⟨_, rfl, _, _, rfl, rfl, _, rfl, ite2 (fun z => ?_) (fun z => ?_)⟩
      · have z' : gE (rkP pl) Gl[i] < r := by have := of_decide_eq_true z; omega
        have m : Gl.any (fun x => decide (gE (rkP pl) x < r)) = true := List.any_eq_true.mpr ⟨Gl[i], List.getElem_mem il, decide_eq_true z'⟩
        exact ⟨_, rfl, szr, fun p H4 n4 s4 h4 => k2 m p _ H4 (s3.trans s4) h4⟩
      · refine ⟨_, rfl, s3, ?_⟩
        rw [tk]
        refine decide_eq_false fun y => z (decide_eq_true (by omega))
    · rw [yn, idx_nat ci] at z
      cases z
  · rintro σ' H3 ⟨v3, rfl, s3, an3⟩
    rw [nvs_len, List.take_length] at an3
    exact k1 an3 H3 s3
end
end Af

set_option Elab.async false
set_option linter.all false
set_option maxRecDepth 100000
namespace L2
open PySem PySem.Spec PyProof.Rows
/-! list(range(8, 0, -1)) -/
section
variable {X : Cx}
def tLst3 (ta : TA) : TE := fun σ H Q => ta σ H fun vs H1 => vs = [.int 8, .int 0, .int (-1)] ∧ ∀ q, H1 q = none → Q (.ref q) (upd H1 q (.lst ([8, 7, 6, 5, 4, 3, 2, 1].map V.int)))
theorem pe_listRg3 {a b c : Expr} {ta : TA} {p p2 pos pos2 : Pos} (hg : Gl X "list") (hm : X.mg "list" = none) (hg2 : Gl X "range") (hm2 : X.mg "range" = none) (ha : PA X [a, b, c] ta) (hc : X.calm = true := by rfl)
    (hs : starEach [a, b, c] X.env = (false, eval a X.env) :: starEach [b, c] X.env := by rfl) (hpl : (backTo pos2 (starEach [b, c] X.env)).any (·.1) = false := by rfl)
    (na : starEach [.Call (.Name "range" p2) [a, b, c] [] pos2] X.env = (false, eval (.Call (.Name "range" p2) [a, b, c] [] pos2) X.env) :: starEach [] X.env := by rfl) :
    PE X (.Call (.Name "list" p) [.Call (.Name "range" p2) [a, b, c] [] pos2] [] pos) (tLst3 ta) := by
  refine ⟨fun pins s σ H Q I h => ?_⟩
  have inner : wpAny (model X.prog X.w) X.A (eval (.Call (.Name "range" p2) [a, b, c] [] pos2) X.env) (fun x s' => ∃ r t u v H', x = .ref r ∧ IsRange s'.heap r 8 0 (-1) t u v ∧ Inv X pins σ H' s' ∧ ∀ q, H' q = none → Q (.ref q) (upd H' q (.lst ([8, 7, 6, 5, 4, 3, 2, 1].map V.int)))) X.xe s := by
    refine Call_ (ld_blt I hg2 hm2 boot_range (PyProof.Rows.callWith_type1 (thn (ha.run pos2 pins s σ H _ I h) fun us s1 ⟨vs, H1, I1, r1, q1⟩ => ?_) hs hpl))
    obtain ⟨e, q⟩ := q1
    subst e
    cases r1 with
    | cons r rr =>
      cases rr with
      | cons r' rr =>
        cases rr with
        | cons r'' rr =>
          cases rr
          obtain ⟨t, rfl⟩ := r
          obtain ⟨t', rfl⟩ := r'
          obtain ⟨t'', rfl⟩ := r''
          refine call_range_3 (by decide) ?_ (.inl (PyProof.noPylong_small (by decide +kernel)))
          exact ⟨_, _, _, _, H1, rfl, IsRange.new _ _ _ _ _ _ _, I1.kept (t' := s1.toks) fun b u e => Heap.get?_push_of_some _ e, q⟩
  refine Call_ (ld_blt I hg hm boot_list (PyProof.Rows.callWith_type1 (args_cons (thn inner fun x s1 ⟨r, t, u, v, H1, ex, hr, I1, q⟩ => args_nil ?_) na) na))
  subst ex
  refine call_list_range (n := 8) (I1.ok.hd hc) hr (by decide +kernel) (by decide +kernel) (by decide) fun h' tk acc c' hk e' hi => ?_
  refine ⟨.ref s1.heap.objs.size, upd H1 s1.heap.objs.size (.lst ([8, 7, 6, 5, 4, 3, 2, 1].map V.int)), I1.laid hk (Nat.le_refl _) (show ObjOk X.prog X.w _ _ _ (.lst _) from ⟨?_, acc.toList, c', ?_, ?_⟩), rfl, q _ (I1.hok.fresh (Nat.le_refl _))⟩
  · show 8 ≤ sizeLine
    decide
  · have e : acc.toList.length = 8 := by rw [Array.length_toList]; exact hi.1
    have z := vals_of_get acc.toList (fun m => V.int (8 + (m : Int) * (-1))) fun j u hj => hi.2 j u (by rw [← hj, Array.getElem?_toList])
    rw [e] at z
    exact z
  · rw [Array.toArray_toList]
    exact e'
end
end L2

set_option Elab.async false
set_option linter.all false
set_option maxRecDepth 100000
set_option maxHeartbeats 4000000
namespace Af
open PySem PySem.Spec PyProof.Rows L2
/-! data with dicts within, their keys ints and texts; its repr -/
def keyD : L2.Key → PyData
  | .inl i => .int i
  | .inr x => .str x
mutual
inductive Dx (K : PySem.W.Frag) (H : Hp) : V → PyData → Prop
  | non : Dx K H .non .none
  | bl (b : Bool) : Dx K H (.bl b) (.bool b)
  | int (i : Int) : Dx K H (.int i) (.int i)
  | str (x : Str) : Dx K H (.str x) (.str x)
  | lst {a : Addr} {xs : List V} {ds : List PyData} : H a = some (.lst xs) → DxAll K H xs ds → Dx K H (.ref a) (.list ds)
  | tup {a : Addr} {xs : List V} {ds : List PyData} : H a = some (.tup xs) → DxAll K H xs ds → Dx K H (.ref a) (.tuple ds)
  | dic {a : Addr} {rows : List (L2.Key × V)} {kvs : List (PyData × PyData)} : H a = some (.dK rows) → DxKv K H rows kvs → Dx K H (.ref a) (.dict kvs)
inductive DxAll (K : PySem.W.Frag) (H : Hp) : List V → List PyData → Prop
  | nil : DxAll K H [] []
  | cons {v : V} {vs : List V} {d : PyData} {ds : List PyData} : Dx K H v d → DxAll K H vs ds → DxAll K H (v :: vs) (d :: ds)
inductive DxKv (K : PySem.W.Frag) (H : Hp) : List (L2.Key × V) → List (PyData × PyData) → Prop
  | nil : DxKv K H [] []
  | cons {k : L2.Key} {v : V} {rows : List (L2.Key × V)} {d : PyData} {kvs : List (PyData × PyData)} : Dx K H v d → DxKv K H rows kvs → DxKv K H ((k, v) :: rows) ((keyD k, d) :: kvs)
end
mutual
theorem Dx.of {K : PySem.W.Frag} {H : Hp} : ∀ {v : V} {d : PyData}, Dq K H v d → Dx K H v d
  | _, _, .non => .non
  | _, _, .bl b => .bl b
  | _, _, .int i => .int i
  | _, _, .str x => .str x
  | _, _, .lst e t => .lst e (DxAll.of t)
  | _, _, .tup e t => .tup e (DxAll.of t)
  | _, _, .dic e => .dic e .nil
theorem DxAll.of {K : PySem.W.Frag} {H : Hp} : ∀ {v : List V} {d : List PyData}, DqAll K H v d → DxAll K H v d
  | _, _, .nil => .nil
  | _, _, .cons h t => .cons (Dx.of h) (DxAll.of t)
end
mutual
theorem Dx.same {K : PySem.W.Frag} {H H' : Hp} (s : Same H H') : ∀ {v : V} {d : PyData}, Dx K H v d → Dx K H' v d
  | _, _, .non => .non
  | _, _, .bl b => .bl b
  | _, _, .int i => .int i
  | _, _, .str x => .str x
  | _, _, .lst e t => .lst (s _ _ e) (DxAll.same s t)
  | _, _, .tup e t => .tup (s _ _ e) (DxAll.same s t)
  | _, _, .dic e t => .dic (s _ _ e) (DxKv.same s t)
theorem DxAll.same {K : PySem.W.Frag} {H H' : Hp} (s : Same H H') : ∀ {v : List V} {d : List PyData}, DxAll K H v d → DxAll K H' v d
  | _, _, .nil => .nil
  | _, _, .cons h t => .cons (Dx.same s h) (DxAll.same s t)
theorem DxKv.same {K : PySem.W.Frag} {H H' : Hp} (s : Same H H') : ∀ {v : List (L2.Key × V)} {d : List (PyData × PyData)}, DxKv K H v d → DxKv K H' v d
  | _, _, .nil => .nil
  | _, _, .cons h t => .cons (Dx.same s h) (DxKv.same s t)
end
theorem DxAll.len {K : PySem.W.Frag} {H : Hp} : ∀ {v : List V} {d : List PyData}, DxAll K H v d → v.length = d.length
  | _, _, .nil => rfl
  | _, _, .cons _ t => by rw [List.length_cons, List.length_cons, t.len]
theorem DxKv.len {K : PySem.W.Frag} {H : Hp} : ∀ {v : List (L2.Key × V)} {d : List (PyData × PyData)}, DxKv K H v d → v.length = d.length
  | _, _, .nil => rfl
  | _, _, .cons _ t => by rw [List.length_cons, List.length_cons, t.len]
theorem DxAll.at {K : PySem.W.Frag} {H : Hp} : ∀ {xs : List V} {ds : List PyData}, DxAll K H xs ds → ∀ {i : Nat} {y : V}, xs[i]? = some y → ∃ d, ds[i]? = some d ∧ Dx K H y d
  | _, _, .nil, i, y, h => by simp at h
  | _, _, .cons r t, 0, y, h => by cases h; exact ⟨_, rfl, r⟩
  | _, _, .cons r t, i + 1, y, h => t.at (i := i) h
theorem DxAll.app {K : PySem.W.Frag} {H : Hp} : ∀ {xs ys : List V} {ds es : List PyData}, DxAll K H xs ds → DxAll K H ys es → DxAll K H (xs ++ ys) (ds ++ es)
  | _, _, _, _, .nil, h => h
  | _, _, _, _, .cons r t, h => .cons r (t.app h)
theorem depthKv_key (k : L2.Key) (d : PyData) (r : List (PyData × PyData)) : PyData.depthKv ((keyD k, d) :: r) = max d.depth (PyData.depthKv r) := by
  cases k <;> simp only [PyData.depthKv, keyD, PyData.depth, Nat.zero_max]
theorem kv_le_l {k v : Str} : k.length ≤ (k ++ ": " ++ v).length := by rw [strLen_append, strLen_append]; omega
theorem kv_le_r {k v : Str} : v.length ≤ (k ++ ": " ++ v).length := by rw [strLen_append, strLen_append]; omega
section
variable {X : Cx} {pins : List (Addr × Obj)} {σ : L2.St} {H : Hp} {s : Shared}
theorem flat_sees (I : Inv X pins σ H s) {u : Value} {d : PyData} {as : List Addr} (r : Reads s.heap u d as) (no : d.hasDict = false) (sh : d.showable = true) (sz : d.shown.length ≤ sizeLine) : ∃ as bs, Reads s.heap u d as ∧ ReadAtMost s.heap d.depth bs ∧ ReprK X.prog X.w bs s.heap d.depth u d.shown := by
  obtain ⟨bs, h1, h2⟩ := ReprK.of_reads (prog := X.prog) (w := X.w) (h₀ := s.heap) r sh (fun z => by rw [no] at z; cases z) sz
  exact ⟨_, bs, r, h1, h2⟩
theorem key_sees (I : Inv X pins σ H s) {k : L2.Key} {u : Value} (hk : L2.keyIs k u = true) (sh : (keyD k).showable = true) (sz : (keyD k).shown.length ≤ sizeLine) : ∃ as bs, Reads s.heap u (keyD k) as ∧ ReadAtMost s.heap (keyD k).depth bs ∧ ReprK X.prog X.w bs s.heap (keyD k).depth u (keyD k).shown := by
  rcases L2.keyIs_shape hk with ⟨i, t, rfl, rfl⟩ | ⟨x, t, rfl, rfl⟩
  · exact flat_sees I (Reads.int i t) rfl sh sz
  · exact flat_sees I (Reads.str x t) rfl sh sz
mutual
theorem Dx.sees (I : Inv X pins σ H s) : ∀ (d : PyData) (v : V) (u : Value), Dx X.K H v d → RelV v u → d.showable = true → d.shown.length ≤ sizeLine →
    ∃ as bs, Reads s.heap u d as ∧ ReadAtMost s.heap d.depth bs ∧ ReprK X.prog X.w bs s.heap d.depth u d.shown
  | .none, _, _, h, r, sh, sz => by
    cases h
    cases r
    exact flat_sees I Reads.none rfl sh sz
  | .bool b, _, _, h, r, sh, sz => by
    cases h
    cases r
    exact flat_sees I (Reads.bool b) rfl sh sz
  | .int i, _, _, h, r, sh, sz => by
    cases h
    obtain ⟨t, rfl⟩ := r
    exact flat_sees I (Reads.int i t) rfl sh sz
  | .str x, _, _, h, r, sh, sz => by
    cases h
    obtain ⟨t, rfl⟩ := r
    exact flat_sees I (Reads.str x t) rfl sh sz
  | .list ds, _, _, h, r, sh, sz => by
    cases h with
    | @lst a xs _ hs ha =>
      cases r
      obtain ⟨its, rv, ⟨o, n, ho, hc, _, hd⟩, _⟩ := I.list (SqL.of hs)
      have sz' : (listText (PyData.shownAll ds)).length ≤ sizeLine := by simpa only [PyData.shown] using sz
      obtain ⟨as, bs, hr, hb, hk⟩ := Dx.seesAll I ds _ its ha rv (by simpa [PyData.showable] using sh) fun t ht => Nat.le_trans (listText_mem_le ht) sz'
      have rd : Reads s.heap (.ref a) (.list ds) _ := .list ho hc hd hr
      have new : a ∉ bs := not_mem_of_deeper rd (by simp only [PyData.depth]; omega) hb
      refine ⟨_, a :: bs, rd, ReadAtMost.cons rd (by simp only [PyData.depth]; omega) hb, ?_⟩
      simp only [PyData.depth, PyData.shown]
      cases its with
      | nil =>
        cases hr
        simp only [PyData.shownAll, listText_nil]
        exact ReprK.listEmpty ho hc hd
      | cons x l => exact ReprK.list ho hc hd new (by simpa using hk.length_eq) fun i y e => hk.item i y (by simpa using e)
  | .tuple ds, _, _, h, r, sh, sz => by
    cases h with
    | @tup a xs _ hs ha =>
      cases r
      obtain ⟨its, rv, ⟨o, ho, hc, n, hd⟩, _⟩ := I.tuple (SqT.of hs)
      have sz' : (tupleText (PyData.shownAll ds)).length ≤ sizeLine := by simpa only [PyData.shown] using sz
      obtain ⟨as, bs, hr, hb, hk⟩ := Dx.seesAll I ds _ its ha rv (by simpa [PyData.showable] using sh) fun t ht => Nat.le_trans (tupleText_mem_le ht) sz'
      have rd : Reads s.heap (.ref a) (.tuple ds) _ := .tuple ho hc hd hr
      have new : a ∉ bs := not_mem_of_deeper rd (by simp only [PyData.depth]; omega) hb
      refine ⟨_, a :: bs, rd, ReadAtMost.cons rd (by simp only [PyData.depth]; omega) hb, ?_⟩
      simp only [PyData.depth, PyData.shown]
      exact ReprK.tuple ho hc hd new hk
  | .dict kvs, _, _, h, r, sh, sz => by
    cases h with
    | @dic a rows _ ha hr =>
      cases r
      obtain ⟨_, hne, vs, rv, o, es, ep, h1, h2, h3, _, h4, _⟩ := dk_of I.hok ha
      have sz' : (dictText (PyData.shownKv kvs)).length ≤ sizeLine := by simpa only [PyData.shown] using sz
      obtain ⟨as1, as2, bs, r1, r2, hb, k1, k2⟩ := Dx.seesKv I kvs rows vs es.toList hr rv h4 (by simpa [PyData.showable] using sh) fun t ht => Nat.le_trans (dictText_mem_le ht) sz'
      have rd : Reads s.heap (.ref a) (.dict kvs) _ := .dict h1 h2.1 h3 r1 r2
      have new : a ∉ bs := not_mem_of_deeper rd (by simp only [PyData.depth]; omega) hb
      refine ⟨_, a :: bs, rd, ReadAtMost.cons rd (by simp only [PyData.depth]; omega) hb, ?_⟩
      simp only [PyData.depth, PyData.shown, PyData.shownKv_eq]
      exact ReprK.dict h1 h2.1 h3 hne new (ReprEntriesK.of_two es.toList _ _ k1 k2)
theorem Dx.seesAll (I : Inv X pins σ H s) : ∀ (ds : List PyData) (vs : List V) (us : List Value), DxAll X.K H vs ds → Vals vs us → PyData.showableAll ds = true → (∀ t ∈ PyData.shownAll ds, t.length ≤ sizeLine) →
    ∃ as bs, ReadsAll s.heap us ds as ∧ ReadAtMost s.heap (PyData.depthAll ds) bs ∧ ReprAllK X.prog X.w bs s.heap (PyData.depthAll ds) us (PyData.shownAll ds)
  | [], _, _, h, r, _, _ => by
    cases h
    cases r
    refine ⟨_, [], ReadsAll.nil, ⟨fun b z => (by simp at z), ?_⟩⟩
    simp only [PyData.shownAll]
    exact .nil
  | d :: ds, _, _, h, r, sh, sz => by
    cases h with
    | cons h1 h2 =>
      cases r with
      | cons r1 r2 =>
        have sh' : d.showable = true ∧ PyData.showableAll ds = true := by simpa [PyData.showableAll] using sh
        obtain ⟨a1, b1, q1, m1, k1⟩ := Dx.sees I d _ _ h1 r1 sh'.1 (sz _ (by simp only [PyData.shownAll]; exact List.mem_cons_self))
        obtain ⟨a2, b2, q2, m2, k2⟩ := Dx.seesAll I ds _ _ h2 r2 sh'.2 fun t ht => sz t (by simp only [PyData.shownAll]; exact List.mem_cons_of_mem _ ht)
        refine ⟨_, b1 ++ b2, ReadsAll.cons q1 q2, fun b hb => ?_, ?_⟩
        · simp only [PyData.depthAll]
          rcases List.mem_append.mp hb with hb | hb
          · obtain ⟨d', a', r', y⟩ := m1 b hb
            exact ⟨d', a', r', by omega⟩
          · obtain ⟨d', a', r', y⟩ := m2 b hb
            exact ⟨d', a', r', by omega⟩
        · simp only [PyData.depthAll, PyData.shownAll]
          refine .cons ((k1.more fun b hb => List.mem_append.mpr (.inl hb)).level_le (by omega)) (k2.more_le (fun b hb => List.mem_append.mpr (.inr hb)) (by omega))
theorem Dx.seesKv (I : Inv X pins σ H s) : ∀ (kvs : List (PyData × PyData)) (rows : List (L2.Key × V)) (vs : List (L2.Key × Value)) (es : List DictEntry), DxKv X.K H rows kvs → KV rows vs → Pairs (mixKind X.prog X.w) es vs → PyData.showableKv kvs = true → (∀ t ∈ PyData.shownKv kvs, t.length ≤ sizeLine) →
    ∃ as1 as2 bs, ReadsAll s.heap (es.map (·.key)) (kvs.map (·.1)) as1 ∧ ReadsAll s.heap (es.map (·.val)) (kvs.map (·.2)) as2 ∧ ReadAtMost s.heap (PyData.depthKv kvs) bs ∧
      ReprAllK X.prog X.w bs s.heap (PyData.depthKv kvs) (es.map (·.key)) (PyData.shownAll (kvs.map (·.1))) ∧ ReprAllK X.prog X.w bs s.heap (PyData.depthKv kvs) (es.map (·.val)) (PyData.shownAll (kvs.map (·.2)))
  | [], _, _, _, h, r, p, _, _ => by
    cases h
    cases r
    cases p
    refine ⟨_, _, [], ReadsAll.nil, ReadsAll.nil, fun b z => (by simp at z), ?_, ?_⟩
    · simp only [List.map_nil, PyData.shownAll]
      exact .nil
    · simp only [List.map_nil, PyData.shownAll]
      exact .nil
  | (dk, d) :: kvs, _, _, _, h, r, p, sh, sz => by
    cases h with
    | @cons k v rows _ _ h1 h2 =>
      cases r with
      | @cons _ y _ ys r1 r2 =>
        cases p with
        | @cons e _ es _ p1 p2 p3 =>
          obtain ⟨yk, yv⟩ := y
          obtain ⟨e1, e2⟩ := r1
          have e1' : k = yk := e1
          subst e1'
          have e2' : RelV v e.val := by rw [p2]; exact e2
          have sh' : ((keyD k).showable = true ∧ d.showable = true) ∧ PyData.showableKv kvs = true := by simpa [PyData.showableKv] using sh
          have z0 := sz ((keyD k).shown ++ ": " ++ d.shown) (by simp only [PyData.shownKv]; exact List.mem_cons_self)
          obtain ⟨a0, b0, q0, m0, k0⟩ := key_sees I (k := k) (u := e.key) p1 sh'.1.1 (Nat.le_trans kv_le_l z0)
          obtain ⟨a1, b1, q1, m1, k1⟩ := Dx.sees I d _ _ h1 e2' sh'.1.2 (Nat.le_trans kv_le_r z0)
          obtain ⟨c1, c2, b2, q2, q3, m2, k2, k3⟩ := Dx.seesKv I kvs _ _ _ h2 r2 p3 sh'.2 fun t ht => sz t (by simp only [PyData.shownKv]; exact List.mem_cons_of_mem _ ht)
          refine ⟨_, _, b0 ++ (b1 ++ b2), ReadsAll.cons q0 q2, ReadsAll.cons q1 q3, fun b hb => ?_, ?_, ?_⟩
          · simp only [PyData.depthKv]
            rcases List.mem_append.mp hb with hb | hb
            · obtain ⟨d', a', r', y⟩ := m0 b hb
              exact ⟨d', a', r', by omega⟩
            · rcases List.mem_append.mp hb with hb | hb
              · obtain ⟨d', a', r', y⟩ := m1 b hb
                exact ⟨d', a', r', by omega⟩
              · obtain ⟨d', a', r', y⟩ := m2 b hb
                exact ⟨d', a', r', by omega⟩
          · simp only [PyData.depthKv, List.map_cons, PyData.shownAll]
            exact .cons ((k0.more fun b hb => List.mem_append.mpr (.inl hb)).level_le (by omega)) (k2.more_le (fun b hb => List.mem_append.mpr (.inr (List.mem_append.mpr (.inr hb)))) (by omega))
          · simp only [PyData.depthKv, List.map_cons, PyData.shownAll]
            exact .cons ((k1.more fun b hb => List.mem_append.mpr (.inr (List.mem_append.mpr (.inl hb)))).level_le (by omega)) (k3.more_le (fun b hb => List.mem_append.mpr (.inr (List.mem_append.mpr (.inr hb)))) (by omega))
end
/-- repr of data of any kind, dicts within -/
def rReprX (K : PySem.W.Frag) : List V → Hp → VK → Prop := fun xs H Q => ∃ (x : V) (d : PyData), xs = [x] ∧ Dx K H x d ∧ d.showable = true ∧ d.depth ≤ 60 ∧ d.shown.length ≤ sizeLine ∧ Q (.str d.shown) H
theorem call_reprX (hg : X.A.guards = some []) (hu : X.A.units + 64 < cLine) : CallR X (.builtin "repr") (rReprX X.K) := by
  intro pins s σ H xs us Q I r h
  obtain ⟨x, d, rfl, hd, sh, dp, sz, q⟩ := h
  cases hd with
  | int i => exact call_reprA hg hu pins s σ H _ us Q I r ⟨_, _, rfl, .int i, sh, dp, sz, q⟩
  | non => exact call_reprA hg hu pins s σ H _ us Q I r ⟨_, _, rfl, .non, sh, dp, sz, q⟩
  | bl b => exact call_reprA hg hu pins s σ H _ us Q I r ⟨_, _, rfl, .bl b, sh, dp, sz, q⟩
  | str z => exact call_reprA hg hu pins s σ H _ us Q I r ⟨_, _, rfl, .str z, sh, dp, sz, q⟩
  | @lst a xs ds hs hd =>
    have dp' : PyData.depthAll ds + 1 ≤ 60 := by simpa only [PyData.depth] using dp
    obtain ⟨u, rfl, ru⟩ := vals1 r
    cases (show u = Value.ref a from ru)
    obtain ⟨its, rv, ⟨o, n, ho, hc, _, hdd⟩, _⟩ := I.list (SqL.of hs)
    have sz' : (listText (PyData.shownAll ds)).length ≤ sizeLine := by simpa only [PyData.shown] using sz
    obtain ⟨as, bs, hr, hb, hk⟩ := Dx.seesAll I ds xs its hd rv (by simpa only [PyData.showable] using sh) fun t ht => Nat.le_trans (listText_mem_le ht) sz'
    have rd : Reads s.heap (.ref a) (.list ds) _ := .list ho hc hdd hr
    have new : a ∉ bs := not_mem_of_deeper rd (by simp only [PyData.depth]; omega) hb
    refine call_repr_slot (T := "list") (by omega) ⟨o, ho, hc⟩ PySem.F.slot_list_repr.toG ?_
    cases its with
    | nil =>
      cases hr
      have e0 : (PyData.list []).shown = ("[]" : Str) := by simp only [PyData.shown, PyData.shownAll, listText_nil]
      refine call_list_repr_empty ⟨o, ho, hc⟩ ho hdd ⟨_, _, rfl, .str (PyData.list []).shown, H, ?_, ⟨_, by rw [e0]⟩, q⟩
      exact I.kept (t' := _) fun _ _ y => y
    | cons y l =>
      refine call_list_reprK ho hc hdd new (by simpa using hk.length_eq) (fun i y e => hk.item i y (by simpa using e)) hg (fun b _ => Clear.nil b) (by show X.A.units + 1 + (PyData.depthAll ds + 1) < cLine; omega) (fun _ _ e => e) (fun h' u tk keep => ?_) sz'
      refine ⟨_, _, rfl, .str (PyData.list ds).shown, H, I.kept keep, ⟨u, ?_⟩, q⟩
      simp only [PyData.shown]
  | @tup a xs ds hs hd =>
    have dp' : PyData.depthAll ds + 1 ≤ 60 := by simpa only [PyData.depth] using dp
    obtain ⟨u, rfl, ru⟩ := vals1 r
    cases (show u = Value.ref a from ru)
    obtain ⟨its, rv, ⟨o, ho, hc, n, hdd⟩, _⟩ := I.tuple (SqT.of hs)
    have sz' : (tupleText (PyData.shownAll ds)).length ≤ sizeLine := by simpa only [PyData.shown] using sz
    obtain ⟨as, bs, hr, hb, hk⟩ := Dx.seesAll I ds xs its hd rv (by simpa only [PyData.showable] using sh) fun t ht => Nat.le_trans (tupleText_mem_le ht) sz'
    have rd : Reads s.heap (.ref a) (.tuple ds) _ := .tuple ho hc hdd hr
    have new : a ∉ bs := not_mem_of_deeper rd (by simp only [PyData.depth]; omega) hb
    refine call_repr_slot (T := "tuple") (by omega) ⟨o, ho, hc⟩ PySem.F.slot_tuple_repr (call_tuple_reprK ho hc hdd new hk hg (fun b _ => Clear.nil b) (by show X.A.units + 1 + (PyData.depthAll ds + 1) < cLine; omega) (fun _ _ e => e) (fun h' u tk keep => ?_) sz')
    refine ⟨_, _, rfl, .str (PyData.tuple ds).shown, H, I.kept keep, ⟨u, ?_⟩, q⟩
    simp only [PyData.shown]
  | @dic a rows kvs hs hd =>
    have dp' : PyData.depthKv kvs + 1 ≤ 60 := by simpa only [PyData.depth] using dp
    obtain ⟨u, rfl, ru⟩ := vals1 r
    cases (show u = Value.ref a from ru)
    obtain ⟨_, hne, vs, rv, o, es, ep, h1, h2, h3, _, h4, _⟩ := dk_of I.hok hs
    have sz' : (dictText (PyData.shownKv kvs)).length ≤ sizeLine := by simpa only [PyData.shown] using sz
    obtain ⟨as1, as2, bs, r1, r2, hb, k1, k2⟩ := Dx.seesKv I kvs rows vs es.toList hd rv h4 (by simpa [PyData.showable] using sh) fun t ht => Nat.le_trans (dictText_mem_le ht) sz'
    have rd : Reads s.heap (.ref a) (.dict kvs) _ := .dict h1 h2.1 h3 r1 r2
    have new : a ∉ bs := not_mem_of_deeper rd (by simp only [PyData.depth]; omega) hb
    have e1 := ReprEntriesK.of_two es.toList _ _ k1 k2
    rw [← PyData.shownKv_eq] at e1
    refine call_repr_slot (T := "dict") (by omega) ⟨o, h1, h2.1⟩ PySem.F.slot_dict_repr (call_dict_reprK h1 h2.1 h3 hne new e1 hg (fun b _ => Clear.nil b) (by show X.A.units + 1 + (PyData.depthKv kvs + 1) < cLine; omega) (fun _ _ e => e) (fun h' u tk keep => ?_) sz')
    refine ⟨_, _, rfl, .str (PyData.dict kvs).shown, H, I.kept keep, ⟨u, ?_⟩, q⟩
    simp only [PyData.shown]
end
end Af

set_option Elab.async false
set_option linter.all false
set_option maxRecDepth 100000
set_option maxHeartbeats 4000000
namespace Af
open PySem PySem.Spec PyProof.Rows L2
theorem _root_.L2.Room.u1 {k : Nat} {A : Around} (r : L2.Room k A) : A.units + 1 < cLine := by have := r.units; omega
/-! patterns: dicts of cells and ascending worths; patterns among data -/
section
variable {K : PySem.W.Frag} {H : Hp}
theorem dx_ty {x : V} {d : PyData} (h : Dx K H x d) : ∃ n, Ty K H x n := by
  cases h with
  | non => exact ⟨_, .non, by decide, fun _ _ _ e => by cases e⟩
  | bl b => exact ⟨_, .bl b, by decide, fun _ _ _ e => by cases e⟩
  | int i => exact ⟨_, .int i, by decide, fun _ _ _ e => by cases e⟩
  | str z => exact ⟨_, .str z, by decide, fun _ _ _ e => by cases e⟩
  | lst e t => exact ⟨_, .lst e, by decide, fun b o u z q => by cases z; rw [e] at q; cases q⟩
  | tup e t => exact ⟨_, .tup e, by decide, fun b o u z q => by cases z; rw [e] at q; cases q⟩
  | dic e t => exact ⟨_, .dK e, by decide, fun b o u z q => by cases z; rw [e] at q; cases q⟩
theorem dx_idx {x : V} {d : PyData} (h : Dx K H x d) (m : Int) : idxB m x = idxD m d := by
  cases h <;> rfl
theorem dx_all {m : Int} : ∀ {xs : List V} {ds : List PyData}, DxAll K H xs ds → xs.all (idxB m) = ds.all (idxD m)
  | _, _, .nil => rfl
  | _, _, .cons r t => by rw [List.all_cons, List.all_cons, dx_idx r, dx_all t]
theorem dx_empty : ∀ {xs : List V} {ds : List PyData}, DxAll K H xs ds → xs.isEmpty = ds.isEmpty
  | _, _, .nil => rfl
  | _, _, .cons _ _ => rfl
theorem dx_worths {x : V} {d : PyData} (h : Dx K H x d) : worthsB H x = worthsD d := by
  cases h with
  | lst e t => simp only [worthsB, e, worthsD]
  | tup e t => simp only [worthsB, e, worthsD]; rw [dx_empty t, dx_all t]
  | dic e t => simp only [worthsB, e, worthsD]
  | _ => rfl
theorem DxAll.mem : ∀ {xs : List V} {ds : List PyData}, DxAll K H xs ds → ∀ {y : V}, y ∈ xs → ∃ d ∈ ds, Dx K H y d
  | _, _, .nil, y, h => by cases h
  | _, _, .cons r t, y, h => by
    rcases List.mem_cons.mp h with rfl | h
    · exact ⟨_, List.mem_cons_self, r⟩
    · obtain ⟨d, h1, h2⟩ := t.mem h
      exact ⟨d, List.mem_cons_of_mem _ h1, h2⟩
/-- lists and tuples at the top are not long -/
def WdD (d : PyData) : Prop := ∀ ds, d = .tuple ds ∨ d = .list ds → ds.length ≤ 1000
theorem dx_th1 {x : V} {d : PyData} (h : Dx K H x d) (w : WdD d) : Th K H 1 x := by
  refine ⟨dx_ty h, fun a xs e z => ?_⟩
  subst e
  cases h with
  | @lst _ ys ds e t =>
    have l := w ds (.inr rfl)
    rcases z with z | z
    · rw [e] at z; cases z
    · rw [e] at z; cases z; exact ⟨by rw [t.len]; omega, fun y hy => by obtain ⟨d, _, q⟩ := t.mem hy; exact dx_ty q⟩
  | @tup _ ys ds e t =>
    have l := w ds (.inl rfl)
    rcases z with z | z
    · rw [e] at z; cases z; exact ⟨by rw [t.len]; omega, fun y hy => by obtain ⟨d, _, q⟩ := t.mem hy; exact dx_ty q⟩
    · rw [e] at z; cases z
  | dic e t => rcases z with z | z <;> (rw [e] at z; cases z)
end
/-! ascending worths -/
def ascB : List Int → Bool
  | a :: b :: r => decide (a < b) && ascB (b :: r)
  | _ => true
def stI (ws : List Int) (i : Nat) : Bool := decide (ws.getD i 0 < ws.getD (i + 1) 0)
theorem asc_range : ∀ ws : List Int, (List.range (ws.length - 1)).all (stI ws) = ascB ws
  | [] => rfl
  | [_] => rfl
  | a :: b :: r => by
    have ih := asc_range (b :: r)
    show (List.range (r.length + 1)).all (stI (a :: b :: r)) = (decide (a < b) && ascB (b :: r))
    rw [← ih, List.range_succ_eq_map, List.all_cons, List.all_map]
    rfl
theorem asc_iff : ∀ {ws : List Int}, ascB ws = true ↔ ws.Pairwise (· < ·)
  | [] => ⟨fun _ => .nil, fun _ => rfl⟩
  | [_] => ⟨fun _ => List.pairwise_singleton _ _, fun _ => rfl⟩
  | a :: b :: r => by
    have ih := asc_iff (ws := b :: r)
    show (decide (a < b) && ascB (b :: r)) = true ↔ _
    rw [Bool.and_eq_true, decide_eq_true_iff, ih]
    constructor
    · rintro ⟨h1, h2⟩
      refine List.pairwise_cons.mpr ⟨fun z hz => ?_, h2⟩
      rcases List.mem_cons.mp hz with rfl | hz
      · exact h1
      · have := (List.pairwise_cons.mp h2).1 z hz
        omega
    · intro h
      obtain ⟨h1, h2⟩ := List.pairwise_cons.mp h
      exact ⟨h1 b List.mem_cons_self, h2⟩
/-! patterns of any data -/
def intD : PyData → Int
  | .int i => i
  | _ => 0
def intsD : PyData → List Int
  | .tuple ds => ds.map intD
  | _ => []
def letD (d : PyData) : Bool := worthsD d && ascB (intsD d)
def patB (n : Int) : PyData → Bool
  | .dict kvs => kvs.all fun p => idxD n p.1 && letD p.2
  | _ => false
/-- a dict whose values are not long -/
def SzP (d : PyData) : Prop := ∀ kvs, d = .dict kvs → kvs.length ≤ 1000 ∧ (kvs.map (·.1)).Nodup ∧ ∀ p ∈ kvs, WdD p.2
section
variable {K : PySem.W.Frag} {H : Hp}
theorem idx_int {m : Int} {x : V} (h : idxB m x = true) : ∃ i, x = .int i ∧ 0 ≤ i ∧ i < m := by
  cases x with
  | int i =>
    have h : (decide (0 ≤ i) && decide (i < m)) = true := h
    rw [Bool.and_eq_true, decide_eq_true_iff, decide_eq_true_iff] at h
    exact ⟨i, rfl, h.1, h.2⟩
  | _ => cases h
theorem dx_int {m : Int} {x : V} {d : PyData} (q : Dx K H x d) (h : idxD m d = true) : x = .int (intD d) ∧ 0 ≤ intD d ∧ intD d < m := by
  rw [← dx_idx q] at h
  obtain ⟨i, rfl, a, b⟩ := idx_int h
  cases q
  exact ⟨rfl, a, b⟩
theorem dx_ints {m : Int} : ∀ {xs : List V} {ds : List PyData}, DxAll K H xs ds → ds.all (idxD m) = true → xs = ivs (ds.map intD) ∧ ∀ z ∈ ds.map intD, 0 ≤ z ∧ z < m
  | _, _, .nil, _ => ⟨rfl, fun z h => by cases h⟩
  | _, _, .cons r t, h => by
    rw [List.all_cons, Bool.and_eq_true] at h
    obtain ⟨e1, e2, e3⟩ := dx_int r h.1
    obtain ⟨a, b⟩ := dx_ints t h.2
    refine ⟨?_, fun z hz => ?_⟩
    · rw [e1, a]
      rfl
    · rcases List.mem_cons.mp hz with rfl | hz
      · exact ⟨e2, e3⟩
      · exact b z hz
/-- worths among data -/
theorem dx_let {x : V} {d : PyData} (q : Dx K H x d) (h : worthsD d = true) : ∃ a, x = .ref a ∧ H a = some (.tup (ivs (intsD d))) ∧ intsD d ≠ [] ∧ ∀ z ∈ intsD d, 0 ≤ z ∧ z < 8 := by
  cases q with
  | @tup a xs ds e t =>
    have h : (!ds.isEmpty && ds.all (idxD 8)) = true := h
    rw [Bool.and_eq_true] at h
    obtain ⟨e1, b⟩ := dx_ints t h.2
    refine ⟨a, rfl, by rw [e, e1]; rfl, fun z => ?_, b⟩
    cases ds with
    | nil => cases h.1
    | cons _ _ => cases z
  | _ => cases h
theorem dx_dict_or {x : V} {d : PyData} (h : Dx K H x d) : (∃ a rows kvs, x = .ref a ∧ H a = some (.dK rows) ∧ d = .dict kvs ∧ DxKv K H rows kvs) ∨ (∃ n, Ty K H x n ∧ isB n "dict" = false ∧ ∀ kvs, d ≠ .dict kvs) := by
  cases h with
  | non => exact .inr ⟨_, ⟨.non, by decide, fun _ _ _ e => by cases e⟩, by decide, fun _ e => by cases e⟩
  | bl b => exact .inr ⟨_, ⟨.bl b, by decide, fun _ _ _ e => by cases e⟩, by decide, fun _ e => by cases e⟩
  | int i => exact .inr ⟨_, ⟨.int i, by decide, fun _ _ _ e => by cases e⟩, by decide, fun _ e => by cases e⟩
  | str z => exact .inr ⟨_, ⟨.str z, by decide, fun _ _ _ e => by cases e⟩, by decide, fun _ e => by cases e⟩
  | lst e t => exact .inr ⟨_, ⟨.lst e, by decide, fun b o u z q => by cases z; rw [e] at q; cases q⟩, by decide, fun _ e => by cases e⟩
  | tup e t => exact .inr ⟨_, ⟨.tup e, by decide, fun b o u z q => by cases z; rw [e] at q; cases q⟩, by decide, fun _ e => by cases e⟩
  | dic e t => exact .inl ⟨_, _, _, rfl, e, rfl, t⟩
theorem ty_d {a : Addr} {rows : List (L2.Key × V)} (h : H a = some (.dK rows)) : Ty K H (.ref a) "dict" := ⟨.dK h, by decide, fun b o u e z => by cases e; rw [h] at z; cases z⟩
theorem isB_dd : isB "dict" "dict" = true := by decide
theorem DxKv.at : ∀ {rows : List (L2.Key × V)} {kvs : List (PyData × PyData)}, DxKv K H rows kvs → ∀ {i : Nat} {k : L2.Key} {v : V}, rows[i]? = some (k, v) → ∃ d, kvs[i]? = some (keyD k, d) ∧ Dx K H v d
  | _, _, .nil, i, k, v, h => by simp at h
  | _, _, .cons r t, 0, k, v, h => by cases h; exact ⟨_, rfl, r⟩
  | _, _, .cons r t, i + 1, k, v, h => t.at (i := i) h
theorem DxKv.keys : ∀ {rows : List (L2.Key × V)} {kvs : List (PyData × PyData)}, DxKv K H rows kvs → kvs.map (·.1) = (rows.map (·.1)).map keyD
  | _, _, .nil => rfl
  | _, _, .cons _ t => by rw [List.map_cons, List.map_cons, List.map_cons, t.keys]
theorem DxKv.nd {rows : List (L2.Key × V)} {kvs : List (PyData × PyData)} (h : DxKv K H rows kvs) (n : (kvs.map (·.1)).Nodup) : (rows.map (·.1)).Nodup := by
  rw [h.keys] at n
  exact (List.pairwise_map.mp n).imp fun {a b} z e => z (by rw [e])
theorem key_idx (k : L2.Key) (m : Int) : idxB m (kV k) = idxD m (keyD k) := by cases k <;> rfl
theorem key_ty (k : L2.Key) : ∃ n, Ty K H (kV k) n := by
  cases k with
  | inl i => exact ⟨_, .int i, by decide, fun _ _ _ e => by cases e⟩
  | inr x => exact ⟨_, .str x, by decide, fun _ _ _ e => by cases e⟩
theorem valV_at : ∀ {rows : List (L2.Key × V)} {i : Nat} {k : L2.Key} {v : V}, (rows.map (·.1)).Nodup → rows[i]? = some (k, v) → valV rows k = some v
  | [], i, k, v, _, h => by simp at h
  | p :: r, 0, k, v, _, h => by
    cases h
    exact valV_pos rfl
  | p :: r, i + 1, k, v, n, h => by
    rw [List.map_cons] at n
    obtain ⟨n1, n2⟩ := List.nodup_cons.mp n
    have hm : k ∈ r.map (·.1) := by
      have := List.mem_of_getElem? (l := r) (i := i) (by simpa using h)
      exact List.mem_map.mpr ⟨_, this, rfl⟩
    rw [valV_neg (fun e => n1 (by rw [e]; exact hm))]
    exact valV_at n2 (by simpa using h)
end
/-! locked while it is walked -/
theorem lock_same {H H' : Hp} {d : Addr} {u : HO} {od : Obj} (h : H d = some u) (s : Same (upd H d (.frz od u)) H') : Same H (upd H' d u) := fun a o e => by
  by_cases c : a = d
  · subst c
    rw [upd_same]
    rw [h] at e
    exact e
  · rw [upd_ne c]
    exact s a o (by rw [upd_ne c]; exact e)
theorem lock_at {H H' : Hp} {d : Addr} {u : HO} {od : Obj} (s : Same (upd H d (.frz od u)) H') : H' d = some (.frz od u) := s _ _ upd_same
theorem lock_get {H : Hp} {d a : Addr} {u o : HO} {od : Obj} (h : H d = some u) (e : H a = some o) (n : o ≠ u) : upd H d (.frz od u) a = some o := by
  rw [upd_ne (fun z => n (by rw [z, h] at e; exact (Option.some.inj e).symm))]
  exact e
/-- the heap without the locked dict -/
theorem lock_hd {H : Hp} {d : Addr} {x : HO} : Same (hd d H) (upd H d x) := fun a o e => by
  by_cases c : a = d
  · rw [c, show hd d H d = none from if_pos rfl] at e
    cases e
  · rw [hd_ne c] at e
    rw [upd_ne c]
    exact e
mutual
theorem Dx.fn {K : PySem.W.Frag} {H : Hp} : ∀ {v : V} {d : PyData}, Dx K H v d → ∀ {d' : PyData}, Dx K H v d' → d = d'
  | _, _, .non, _, h => by cases h; rfl
  | _, _, .bl b, _, h => by cases h; rfl
  | _, _, .int i, _, h => by cases h; rfl
  | _, _, .str x, _, h => by cases h; rfl
  | _, _, .lst e t, _, h => by
    cases h with
    | lst e' t' => rw [e] at e'; cases e'; rw [DxAll.fn t t']
    | tup e' t' => rw [e] at e'; cases e'
    | dic e' t' => rw [e] at e'; cases e'
  | _, _, .tup e t, _, h => by
    cases h with
    | lst e' t' => rw [e] at e'; cases e'
    | tup e' t' => rw [e] at e'; cases e'; rw [DxAll.fn t t']
    | dic e' t' => rw [e] at e'; cases e'
  | _, _, .dic e t, _, h => by
    cases h with
    | lst e' t' => rw [e] at e'; cases e'
    | tup e' t' => rw [e] at e'; cases e'
    | dic e' t' => rw [e] at e'; cases e'; rw [DxKv.fn t t']
theorem DxAll.fn {K : PySem.W.Frag} {H : Hp} : ∀ {v : List V} {d : List PyData}, DxAll K H v d → ∀ {d' : List PyData}, DxAll K H v d' → d = d'
  | _, _, .nil, _, h => by cases h; rfl
  | _, _, .cons r t, _, h => by
    cases h with
    | cons r' t' => rw [Dx.fn r r', DxAll.fn t t']
theorem DxKv.fn {K : PySem.W.Frag} {H : Hp} : ∀ {v : List (L2.Key × V)} {d : List (PyData × PyData)}, DxKv K H v d → ∀ {d' : List (PyData × PyData)}, DxKv K H v d' → d = d'
  | _, _, .nil, _, h => by cases h; rfl
  | _, _, .cons r t, _, h => by
    cases h with
    | cons r' t' => rw [Dx.fn r r', DxKv.fn t t']
end
/-- what is less deep than what stands at a is told without a -/
theorem dp_l {ds : List PyData} : (PyData.list ds).depth = PyData.depthAll ds + 1 := by simp only [PyData.depth]
theorem dp_t {ds : List PyData} : (PyData.tuple ds).depth = PyData.depthAll ds + 1 := by simp only [PyData.depth]
theorem dp_d {kvs : List (PyData × PyData)} : (PyData.dict kvs).depth = PyData.depthKv kvs + 1 := by simp only [PyData.depth]
mutual
theorem Dx.off {K : PySem.W.Frag} {H : Hp} {a : Addr} {D : PyData} (h : Dx K H (.ref a) D) : ∀ {v : V} {d : PyData}, Dx K H v d → d.depth < D.depth → Dx K (hd a H) v d
  | _, _, .non, _ => .non
  | _, _, .bl b, _ => .bl b
  | _, _, .int i, _ => .int i
  | _, _, .str x, _ => .str x
  | _, _, .lst (a := b) e t, l => by
    have ne : b ≠ a := fun z => by
      subst z
      rw [Dx.fn h (.lst e t)] at l
      omega
    exact .lst ((hd_ne ne).trans e) (DxAll.off h t (by rw [dp_l] at l; omega))
  | _, _, .tup (a := b) e t, l => by
    have ne : b ≠ a := fun z => by
      subst z
      rw [Dx.fn h (.tup e t)] at l
      omega
    exact .tup ((hd_ne ne).trans e) (DxAll.off h t (by rw [dp_t] at l; omega))
  | _, _, .dic (a := b) e t, l => by
    have ne : b ≠ a := fun z => by
      subst z
      rw [Dx.fn h (.dic e t)] at l
      omega
    exact .dic ((hd_ne ne).trans e) (DxKv.off h t (by rw [dp_d] at l; omega))
theorem DxAll.off {K : PySem.W.Frag} {H : Hp} {a : Addr} {D : PyData} (h : Dx K H (.ref a) D) : ∀ {v : List V} {d : List PyData}, DxAll K H v d → PyData.depthAll d < D.depth → DxAll K (hd a H) v d
  | _, _, .nil, _ => .nil
  | _, _, .cons r t, l => .cons (Dx.off h r (by simp only [PyData.depthAll] at l; omega)) (DxAll.off h t (by simp only [PyData.depthAll] at l; omega))
theorem DxKv.off {K : PySem.W.Frag} {H : Hp} {a : Addr} {D : PyData} (h : Dx K H (.ref a) D) : ∀ {v : List (L2.Key × V)} {d : List (PyData × PyData)}, DxKv K H v d → PyData.depthKv d < D.depth → DxKv K (hd a H) v d
  | _, _, .nil, _ => .nil
  | _, _, .cons r t, l => .cons (Dx.off h r (by simp only [PyData.depthKv] at l; omega)) (DxKv.off h t (by simp only [PyData.depthKv] at l; omega))
end
/-- the values of a dict, told while it is locked -/
theorem DxKv.lock {K : PySem.W.Frag} {H : Hp} {a : Addr} {rows : List (L2.Key × V)} {kvs : List (PyData × PyData)} {x : HO} (e : H a = some (.dK rows)) (t : DxKv K H rows kvs) : DxKv K (upd H a x) rows kvs :=
  DxKv.same lock_hd (DxKv.off (.dic e t) t (by rw [dp_d]; omega))
/-! patterns that are right -/
abbrev Ptn := List (Nat × List Int)
def RowV (H : Hp) (r : L2.Key × V) (p : Nat × List Int) : Prop := r.1 = .inl ((p.1 : Nat) : Int) ∧ ∃ t, r.2 = .ref t ∧ H t = some (.tup (ivs p.2))
structure PatV (H : Hp) (a : Addr) (ps : Ptn) : Prop where
  ex : ∃ rows, H a = some (.dK rows) ∧ Paired (RowV H) rows ps
theorem rows_kp {p : Addr} {H H' : Hp} {rows : List (L2.Key × V)} {ps : Ptn} (k : Kp p H H') (h : Paired (RowV H) rows ps) : Paired (RowV H') rows ps := L2.Paired.mapP h fun _ _ ⟨e, t, e2, z⟩ => ⟨e, t, e2, k.tup z⟩
theorem rows_same {H H' : Hp} {rows : List (L2.Key × V)} {ps : Ptn} (s : Same H H') (h : Paired (RowV H) rows ps) : Paired (RowV H') rows ps := rows_kp (p := 0) (Kp.same s) h
theorem PatV.kp {p a : Addr} {H H' : Hp} {ps : Ptn} (h : PatV H a ps) (k : Kp p H H') : PatV H' a ps := by
  obtain ⟨rows, h1, h2⟩ := h.ex
  exact ⟨rows, k _ _ (.inr fun l e => by cases e) h1, rows_kp k h2⟩
theorem PatV.same {a : Addr} {H H' : Hp} {ps : Ptn} (h : PatV H a ps) (s : Same H H') : PatV H' a ps := h.kp (p := 0) (Kp.same s)
structure OkPt (n : Nat) (ps : Ptn) : Prop where
  nd : (ps.map (·.1)).Nodup
  kb : ∀ p ∈ ps, p.1 < n
  ne : ∀ p ∈ ps, p.2 ≠ []
  asc : ∀ p ∈ ps, p.2.Pairwise (· < ·)
  rg : ∀ p ∈ ps, ∀ z ∈ p.2, 0 ≤ z ∧ z < 8
def patD (ps : Ptn) : PyData := .dict (ps.map fun p => (.int ((p.1 : Nat) : Int), .tuple (dvs p.2)))
theorem dx_pat {K : PySem.W.Frag} {H : Hp} {a : Addr} {ps : Ptn} (h : PatV H a ps) : Dx K H (.ref a) (patD ps) := by
  obtain ⟨rows, h1, h2⟩ := h.ex
  refine .dic h1 ?_
  clear h1 h
  induction h2 with
  | nil => exact .nil
  | @cons r p rs ps hr t ih =>
    obtain ⟨k, v⟩ := r
    obtain ⟨e1, t, e2, e3⟩ := hr
    have e1' : k = .inl ((p.1 : Nat) : Int) := e1
    have e2' : v = .ref t := e2
    subst e1' e2'
    exact .cons (k := .inl ((p.1 : Nat) : Int)) (Dx.of (.tup e3 (dq_ints p.2))) ih
theorem sub_lenI : ∀ {l1 l2 : List Int}, l1.Nodup → (∀ x ∈ l1, x ∈ l2) → l1.length ≤ l2.length
  | [], _, _, _ => Nat.zero_le _
  | x :: l1, l2, n, s => by
    obtain ⟨n1, n2⟩ := List.nodup_cons.mp n
    have h := sub_lenI (l2 := l2.erase x) n2 fun y hy => (List.mem_erase_of_ne (fun (e : y = x) => n1 (by rw [← e]; exact hy))).mpr (s y (List.mem_cons_of_mem _ hy))
    have hx := s x List.mem_cons_self
    rw [List.length_erase_of_mem hx] at h
    have := List.length_pos_of_mem hx
    rw [List.length_cons]
    omega
theorem asc_len {ws : List Int} (h : ws.Pairwise (· < ·)) (b : ∀ z ∈ ws, 0 ≤ z ∧ z < 8) : ws.length ≤ 8 := by
  have nd : ws.Nodup := h.imp fun {a b} z => by omega
  have : ws.length ≤ ([0, 1, 2, 3, 4, 5, 6, 7] : List Int).length := sub_lenI nd fun z hz => by
    have := b z hz
    simp only [List.mem_cons, List.not_mem_nil, or_false]
    omega
  exact this
theorem pat_sz {n : Nat} {ps : Ptn} (o : OkPt n ps) (hl : ps.length ≤ 1000) : SzP (patD ps) := fun kvs e => by
  cases e
  refine ⟨by rw [List.length_map]; exact hl, ?_, fun p hp => ?_⟩
  · rw [List.map_map]
    exact List.pairwise_map.mpr ((List.pairwise_map.mp o.nd).imp fun {a b} z e => z (by injection e; omega))
  · obtain ⟨q, hq, rfl⟩ := List.mem_map.mp hp
    intro ds e
    have := asc_len (o.asc q hq) (o.rg q hq)
    rcases e with e | e
    · cases e
      unfold dvs
      rw [List.length_map]
      omega
    · cases e
theorem pat_ok {n : Nat} {ps : Ptn} (o : OkPt n ps) : patB n (patD ps) = true := by
  show (ps.map fun p => (PyData.int ((p.1 : Nat) : Int), PyData.tuple (dvs p.2))).all _ = true
  rw [List.all_map, List.all_eq_true]
  intro p hp
  show (idxD n (.int ((p.1 : Nat) : Int)) && letD (.tuple (dvs p.2))) = true
  have kb := o.kb p hp
  have e1 : idxD (n : Int) (.int ((p.1 : Nat) : Int)) = true := by
    show (decide ((0 : Int) ≤ (p.1 : Int)) && decide ((p.1 : Int) < (n : Int))) = true
    rw [decide_eq_true (by omega), decide_eq_true (by omega)]
    rfl
  have rg := o.rg p hp
  have e2 : worthsD (.tuple (dvs p.2)) = true := by
    show (!(dvs p.2).isEmpty && (dvs p.2).all (idxD 8)) = true
    rw [Bool.and_eq_true, List.all_eq_true]
    refine ⟨?_, fun d hd => ?_⟩
    · have := o.ne p hp
      cases q : p.2 with
      | nil => exact absurd q this
      | cons _ _ => rfl
    · obtain ⟨z, hz, rfl⟩ := dvs_mem hd
      have := rg z hz
      show (decide (0 ≤ z) && decide (z < 8)) = true
      rw [decide_eq_true (by omega), decide_eq_true (by omega)]
      rfl
  have e3 : intsD (.tuple (dvs p.2)) = p.2 := by
    show (p.2.map PyData.int).map intD = p.2
    rw [List.map_map]
    exact List.map_id _
  unfold letD
  rw [e1, e2, e3, asc_iff.mpr (o.asc p hp)]
  rfl
/-- a content agrees with a pattern -/
def agB (ps : Ptn) (c : List Int) : Bool := ps.all fun p => p.2.contains (c.getD p.1 0)
/-! the texts of dicts -/
theorem Bd.dic {b n k : Nat} {kvs : List (PyData × PyData)} (h : ∀ p ∈ kvs, flatD p.1 = true ∧ Bd b n p.2) (hl : kvs.length ≤ k) : Bd (k * (b + 49) + 3) (n + 2) (.dict kvs) := by
  have tx : ((PyData.shownKv kvs).map (·.length)).sum ≤ (b + 47) * kvs.length ∧ (PyData.shownKv kvs).length = kvs.length ∧ PyData.showableKv kvs = true ∧ PyData.depthKv kvs ≤ n + 1 := by
    clear hl
    induction kvs with
    | nil => exact ⟨Nat.zero_le _, rfl, rfl, Nat.zero_le _⟩
    | cons p r ih =>
      obtain ⟨k, v⟩ := p
      obtain ⟨i1, i2, i3, i4⟩ := ih fun q hq => h q (List.mem_cons_of_mem _ hq)
      obtain ⟨f, hv⟩ := h (k, v) List.mem_cons_self
      obtain ⟨k1, k2, k3⟩ := flat_len f
      have v1 := hv.tx
      have v3 := hv.dp
      refine ⟨?_, ?_, ?_, ?_⟩
      · simp only [PyData.shownKv, List.map_cons, List.sum_cons, List.length_cons, Nat.mul_succ]
        have e : (k.shown ++ ": " ++ v.shown).length = k.shown.length + 2 + v.shown.length := by
          rw [strLen_append, strLen_append]
          rfl
        rw [e]
        dsimp only at k1 v1
        omega
      · simp only [PyData.shownKv, List.length_cons, i2]
      · simp only [PyData.showableKv, i3, Bool.and_true, Bool.and_eq_true]
        exact ⟨k2, hv.sh⟩
      · simp only [PyData.depthKv]
        dsimp only at v3 k3
        omega
  obtain ⟨t1, t2, t3, t4⟩ := tx
  have e : kvs.length * (b + 49) ≤ k * (b + 49) := Nat.mul_le_mul_right _ hl
  have e2 : kvs.length * (b + 49) = (b + 47) * kvs.length + 2 * kvs.length := by rw [Nat.mul_comm, ← Nat.add_mul]
  refine ⟨?_, ?_, ?_⟩
  · simp only [PyData.shown]
    have := dictText_len_le (PyData.shownKv kvs)
    rw [t2] at this
    omega
  · simp only [PyData.showable]
    exact t3
  · simp only [PyData.depth]
    omega
theorem bd_pat {n : Nat} {ps : Ptn} (o : OkPt n ps) (hn : n ≤ 24) (hl : ps.length ≤ 24) : Bd 31000 4 (patD ps) := by
  refine (Bd.dic (b := 1200) (n := 2) (k := 24) (fun p hp => ?_) (by rw [List.length_map]; exact hl)).mono (by decide) (by decide)
  obtain ⟨q, hq, rfl⟩ := List.mem_map.mp hp
  have kb := o.kb q hq
  exact ⟨flat_place ⟨by omega, by omega⟩, bd_cells (by have := asc_len (o.asc q hq) (o.rg q hq); omega) (o.rg q hq)⟩
theorem all_mapP {α : Type} (f : α → Bool) (l : List α) : (l.map f).all id = l.all f := by simp
theorem ivs_at {c : List Int} {i : Nat} (h : i < c.length) : (ivs c)[i]? = some (.int (c.getD i 0)) := by
  unfold ivs
  rw [List.getElem?_map, List.getElem?_eq_getElem h, List.getD_eq_getElem?_getD, List.getElem?_eq_getElem h]
  rfl
/-- what a pattern's rows hold while it is locked -/
theorem row_facts {H : Hp} {a : Addr} {rows : List (L2.Key × V)} {ps : Ptn} {od : Obj} {n : Nat} (ha : H a = some (.dK rows)) (hp : Paired (RowV H) rows ps) (o : OkPt n ps) : (rows.map (·.1)).Nodup ∧ ∀ (i : Nat) (k : L2.Key) (v : V), rows[i]? = some (k, v) → ∃ (p : Nat × List Int) (t : Addr), ps[i]? = some p ∧ k = .inl ((p.1 : Nat) : Int) ∧ v = .ref t ∧ upd H a (.frz od (.dK rows)) t = some (.tup (ivs p.2)) := by
  refine ⟨?_, fun i k v h => ?_⟩
  · have e : rows.map (·.1) = ps.map fun p => Sum.inl ((p.1 : Nat) : Int) := by
      clear o ha
      induction hp with
      | nil => rfl
      | cons r t ih => rw [List.map_cons, List.map_cons, ih, r.1]
    rw [e]
    exact List.pairwise_map.mpr ((List.pairwise_map.mp o.nd).imp fun {a b} z e => z (by injection e; omega))
  · obtain ⟨p, h1, e1, t, e2, h2⟩ := paired_get hp h
    exact ⟨p, t, h1, e1, e2, lock_get ha h2 (fun z => by cases z)⟩
/-! dicts that are written: their keys -/
theorem putK_keys {rows : List (L2.Key × V)} {ks : List Int} (h : rows.map (·.1) = ks.map Sum.inl) (z : Int) (v : V) : ∃ ks' : List Int, (putK rows (.inl z) v).map (·.1) = ks'.map Sum.inl ∧ (ks.Nodup → ks'.Nodup) ∧ (∀ x, x ∈ ks' ↔ x ∈ ks ∨ x = z) ∧ ks'.length ≤ ks.length + 1 := by
  unfold putK
  by_cases c : (rows.any fun kv => decide (kv.1 = .inl z)) = true
  · rw [if_pos c]
    have hz : z ∈ ks := by
      obtain ⟨p, hp, e⟩ := List.any_eq_true.mp c
      have e' := of_decide_eq_true e
      have m : (Sum.inl z : L2.Key) ∈ rows.map (·.1) := List.mem_map.mpr ⟨p, hp, e'⟩
      rw [h] at m
      obtain ⟨y, hy, e2⟩ := List.mem_map.mp m
      injection e2 with e2
      rw [← e2]
      exact hy
    refine ⟨ks, ?_, id, fun x => ⟨.inl, fun y => ?_⟩, Nat.le_succ _⟩
    · rw [← h, List.map_map]
      refine List.map_congr_left fun p _ => ?_
      show (if p.1 = .inl z then (p.1, v) else p).1 = p.1
      split <;> rfl
    · rcases y with y | rfl
      · exact y
      · exact hz
  · rw [if_neg c]
    have hz : z ∉ ks := fun hz => c (List.any_eq_true.mpr (by
      have m : (Sum.inl z : L2.Key) ∈ rows.map (·.1) := by rw [h]; exact List.mem_map.mpr ⟨z, hz, rfl⟩
      obtain ⟨p, hp, e⟩ := List.mem_map.mp m
      exact ⟨p, hp, decide_eq_true e⟩))
    refine ⟨ks ++ [z], ?_, fun n => ?_, fun x => ?_, by rw [List.length_append]; exact Nat.le_refl _⟩
    · rw [List.map_append, List.map_append, h]
      rfl
    · exact List.nodup_append.mpr ⟨n, by simp, fun x hx y hy e => by rw [List.mem_singleton.mp hy] at e; exact hz (e ▸ hx)⟩
    · rw [List.mem_append, List.mem_singleton]
theorem putK_snoc {rows : List (L2.Key × V)} {k : L2.Key} {v : V} (h : k ∉ rows.map (·.1)) : putK rows k v = rows ++ [(k, v)] := by
  unfold putK
  rw [if_neg]
  intro c
  obtain ⟨p, hp, e⟩ := List.any_eq_true.mp c
  exact h (List.mem_map.mpr ⟨p, hp, of_decide_eq_true e⟩)
/-- a dict of numbers, whatever they hold -/
def KeyV (H : Hp) (a : Addr) (ks : List Int) : Prop := ∃ rows : List (L2.Key × V), H a = some (.dK rows) ∧ rows.map (·.1) = ks.map Sum.inl
theorem KeyV.kp {p a : Addr} {H H' : Hp} {ks : List Int} (h : KeyV H a ks) (k : Kp p H H') : KeyV H' a ks := by
  obtain ⟨rows, h1, h2⟩ := h
  exact ⟨rows, k _ _ (.inr fun l e => by cases e) h1, h2⟩
theorem rows_upd {H : Hp} {a : Addr} {o u : HO} {rows : List (L2.Key × V)} {ps : Ptn} (e : H a = some u) (n : ∀ l, u ≠ .tup l) (h : Paired (RowV H) rows ps) : Paired (RowV (upd H a o)) rows ps := L2.Paired.mapP h fun _ _ ⟨e1, t, e2, z⟩ => ⟨e1, t, e2, by
  rw [upd_ne (fun q => by rw [q, e] at z; exact n _ (Option.some.inj z))]
  exact z⟩
theorem rows_keys {H : Hp} {rows : List (L2.Key × V)} {ps : Ptn} (h : Paired (RowV H) rows ps) : rows.map (·.1) = ps.map fun p => (Sum.inl ((p.1 : Nat) : Int) : L2.Key) := by
  induction h with
  | nil => rfl
  | cons r t ih => rw [List.map_cons, List.map_cons, ih, r.1]
end Af

set_option Elab.async false
set_option linter.all false
set_option maxRecDepth 100000
namespace Af
open PySem PySem.Spec PyProof.Rows L2
/-! xs.count(True); isinstance of an error that is held, of whatever class -/
def rCntT (K : PySem.W.Frag) : V → List V → Hp → VK → Prop := fun x xs H Q => ∃ (p : Addr) (bs : List Bool), x = .ref p ∧ xs = [.bl true] ∧ SqL K H p (bs.map V.bl) ∧ Q (.int ((bs.count true : Nat) : Int)) H
theorem dp_bools {K : PySem.W.Frag} {H : Hp} : ∀ bs : List Bool, DpAll K H (bs.map V.bl) (bs.map PyData.bool)
  | [] => .nil
  | b :: bs => .cons (.bl b) (dp_bools bs)
theorem lay_bools : ∀ bs : List Bool, PyData.canLayAll0 (bs.map PyData.bool) = true
  | [] => rfl
  | b :: bs => by
    show (PyData.canLay0 (.bool b) && PyData.canLayAll0 (bs.map PyData.bool)) = true
    rw [lay_bools bs]
    rfl
theorem cnt_bools : ∀ bs : List Bool, (bs.map PyData.bool).countP (fun y => PyData.eqv y (.bool true)) = bs.count true
  | [] => rfl
  | b :: bs => by
    rw [List.map_cons, List.countP_cons, cnt_bools bs, List.count_cons]
    cases b <;> rfl
theorem mt_countT {X : Cx} (hu : X.A.units + 1 < cLine) : MtR X "list.count" (rCntT X.K) := by
  intro pins s σ H x xs v us Q I rx rxs h
  obtain ⟨p, bs, rfl, rfl, hs, q⟩ := h
  cases (show v = Value.ref p from rx)
  obtain ⟨u, rfl, ru⟩ := rxs.one
  cases (show u = Value.bool true from ru)
  obtain ⟨its, rv, pl, _⟩ := I.list hs
  obtain ⟨as, rs⟩ := Dp.readsAll I _ _ its (dp_bools bs) rv
  refine PySem.SeqAt.count_list_data (d := .bool true) (vs := its.toArray) pl.isList (by simpa using rs) (Reads.bool true) (PyData.plainAll_of_canLay0 _ (lay_bools bs)) rfl (by show X.A.units + 1 + min _ 0 < cLine; omega) ?_
  refine ⟨.int ((bs.map PyData.bool).countP (fun y => PyData.eqv y (.bool true)) : Nat), H, I.tok _, ⟨_, rfl⟩, ?_⟩
  rw [cnt_bools]
  exact q
def rIsHeldE (K : PySem.W.Frag) : List V → Hp → VK → Prop := fun xs H Q => ∃ D, L2.ExcC K D ∧ rIsHeld K D xs H Q
theorem call_isHeldE {X : Cx} : CallR X (.builtin "isinstance") (rIsHeldE X.K) := by
  intro pins s σ H xs us Q I r h
  obtain ⟨D, C, h⟩ := h
  exact call_isHeld C pins s σ H xs us Q I r h
/-- xs.index(True) of some bools -/
def rIdxT (K : PySem.W.Frag) : V → List V → Hp → VK → Prop := fun x xs H Q => ∃ (p : Addr) (bs : List Bool) (j : Nat), x = .ref p ∧ xs = [.bl true] ∧ SqL K H p (bs.map V.bl) ∧ bs.idxOf true = j ∧ j < bs.length ∧ Q (.int (j : Int)) H
end Af

set_option Elab.async false
set_option linter.all false
set_option maxRecDepth 100000
set_option maxHeartbeats 4000000
namespace Af
open PySem L2
abbrev s_may_begin : Stmt := top 42
abbrev N_may_begin : List Str := ["claims", "fall", "_", "gone", "ahead", "piece", "other"]
theorem sc_may_begin : FnScope N_may_begin ["claims", "fall"] (defScope s_may_begin) := ⟨rfl, rfl, rfl, by decide +kernel, rfl, by decide +kernel, by decide +kernel⟩

abbrev s_behind_piece : Stmt := top 35
abbrev N_behind_piece : List Str := ["content", "piece", "_", "first", "worths"]
theorem sc_behind_piece : FnScope N_behind_piece ["content", "piece"] (defScope s_behind_piece) := ⟨rfl, rfl, rfl, by decide +kernel, rfl, by decide +kernel, by decide +kernel⟩

abbrev s_overwritten : Stmt := top 34
abbrev N_overwritten : List Str := ["plan", "fall", "content", "pieces", "piece"]
theorem sc_overwritten : FnScope N_overwritten ["plan", "fall"] (defScope s_overwritten) := ⟨rfl, rfl, rfl, by decide +kernel, rfl, by decide +kernel, by decide +kernel⟩

abbrev s_l_left : Stmt := top 76
abbrev N_l_left : List Str := ["_law_plan_here", "_law_some_here", "_law_parts_here", "_law_found", "_law_one", "_law_index", "_law_first", "_law_worths_here", "_law_k"]
theorem sc_l_left : FnScope N_l_left ["_law_plan_here", "_law_some_here"] (defScope s_l_left) := ⟨rfl, rfl, rfl, by decide +kernel, rfl, by decide +kernel, by decide +kernel⟩

def sp_may : Sp := fun vs H Q _ => ∃ (v : V) (Tl Gl : List Nat) (Dl : List (Nat × Nat)) (t g d b : Addr) (ls : List Nat), vs = [v, .ref b] ∧ ClV H v Tl Gl Dl t g d ∧ Gl.length ≤ 20 ∧ Dl.length ≤ 20 ∧ H b = some (.lst (nvs ls)) ∧ ls.length ≤ 60 ∧ ∀ H', Same H H' → Q (.bl (mayB Gl Dl ls)) H'
section
variable {P : Program} {w : World} {K : PySem.W.Frag} {mg : Str → Option Value} {base : Heap}
theorem ok_may {f : Addr} {fd : FuncData} (F : Fun K "may_begin" "may_begin" s_may_begin f fd) (T : Txt mg) (t_any : mg "any" = none) : FnOk P w K mg base CX0 1 f fd ["claims", "fall"] sp_may := by
  refine F.ok sc_may_begin (fun vs H Q E h => ?_) (fun cdv A outer s H vs Q E hr h => ?_)
  · obtain ⟨_, _, _, _, _, _, _, _, _, rfl, _⟩ := h
    rfl
  obtain ⟨v, Tl, Gl, Dl, t, g, d, b, ls, rfl, cv, gl, dl, hb, ll, k⟩ := h
  obtain ⟨a, xs, rfl, ha, ht, hg, hd, hp⟩ := cv.ex
  have xl := paired_len hp
  refine ⟨_, (pss_cons (ps_asg (pv 0) (pg_tup rfl (pgs_cons (pg_name (i := 2) sc_may_begin.nd rfl (Or.inl rfl)) (pgs_cons (pg_name (i := 3) sc_may_begin.nd rfl (Or.inl rfl)) (pgs_cons (pg_name (i := 4) sc_may_begin.nd rfl (Or.inl rfl)) pgs_nil)))))
    (pss_cons (ps_if (pt_val (pe_callB (cr_any rfl) (by rfl) t_any (by decide +kernel) (pa_cons (pe_lc (own := [("piece", 5)]) (g := (gName 5)) (tt := tYes) rfl sc_may_begin.nd (pi_list (pv 3)) (blkOk_by (own := [("piece", 5)]) (N := N_may_begin) (sc := defScope s_may_begin) (by decide +kernel)) (fun _ _ _ _ _ => pg_name (i := 5) sc_may_begin.nd rfl (Or.inl rfl)) (fun _ _ _ _ _ => pts_nil) (fun _ _ _ _ _ => (pe_cmpR (op_inK (K := K) rfl) (pv 5) (pv 1) (by rfl)))) pa_nil)))
      (pss_one (ps_ret pe_bl))
      pss_nil)
    (pss_one (ps_ret (pe_not (pe_callB (cr_any rfl) (by rfl) t_any (by decide +kernel) (pa_cons (pe_lc (own := [("piece", 5), ("other", 6)]) (g := (gTup K 2 (gCons (gName 5) (gCons (gName 6) gNil)))) (tt := tYes) rfl sc_may_begin.nd (pi_list (pv 4)) (blkOk_by (own := [("piece", 5), ("other", 6)]) (N := N_may_begin) (sc := defScope s_may_begin) (by decide +kernel)) (fun _ _ _ _ _ => pg_tup rfl (pgs_cons (pg_name (i := 5) sc_may_begin.nd rfl (Or.inl rfl)) (pgs_cons (pg_name (i := 6) sc_may_begin.nd rfl (Or.inl rfl)) pgs_nil))) (fun _ _ _ _ _ => pts_nil) (fun _ _ _ _ _ => (pe_and (pe_cmpR (op_inK (K := K) rfl) (pv 6) (pv 1) (by rfl)) (pe_one (pe_cmpR (op_notInK (K := K) rfl) (pv 5) (pe_slice sl_list' (pv 1) po_none (po_some (pe_idxK (K := K) rfl (pv 1) (pa_cons (pv 6) pa_nil)))) (by rfl)))))) pa_nil))))))), ?_⟩
  refine ⟨_, rfl, a, _, rfl, SqT.of ha, rfl, _, _, rfl, _, _, rfl, _, _, rfl, rfl, ?_⟩
  refine ⟨_, rfl, g, rfl, ⟨_, SqL.of hg⟩, fun D hD => lc_list (K := K) (a := g) (xs := nvs Gl) (fun i H' => Same H H' ∧ H' D = some (.lst (((Gl.take i).map fun x => ls.contains x).map V.bl))) ?_ ?_ ?_ ?_⟩
  · exact ⟨same_new hD, upd_same⟩
  · rintro i H' _ ⟨s1, _⟩
    exact SqL.of (s1 _ _ hg)
  · rintro i y H' hy ⟨s1, h1⟩
    obtain ⟨il, rfl⟩ := nvs_lt hy
    refine ⟨rfl, _, rfl, _, rfl, b, _, rfl, .inl (SqL.of (s1 _ _ hb)), rfl, flat_ivs _, _, h1, szl (by rw [List.length_map, List.length_map, List.length_take]; omega), same_mut s1 hD, ?_⟩
    rw [upd_same, List.take_add_one, List.getElem?_eq_getElem il, List.map_append, List.map_append]
    show some (HO.lst (_ ++ [V.bl (inV (.int ((Gl[i] : Nat) : Int)) (nvs ls))])) = _
    rw [in_nvs]
    rfl
  rintro H1 ⟨s1, h1⟩
  rw [nvs_len, List.take_length] at h1
  refine ⟨D, _, rfl, SqL.of h1, ?_⟩
  rw [any_map]
  have kk := fun H' s => k H' s
  unfold mayB at kk
  refine ⟨_, rfl, ?_⟩
  cases cG : Gl.any (fun x => ls.contains x) with
  | true =>
    rw [cG] at kk
    exact iteT (kk H1 s1)
  | false =>
    rw [cG, Bool.not_false, Bool.true_and] at kk
    refine iteF ⟨_, rfl, d, rfl, ⟨_, SqL.of (s1 _ _ hd)⟩, fun M hM => lc_list (K := K) (a := d) (xs := xs) (fun i H' => Same H1 H' ∧ H' M = some (.lst (((Dl.take i).map (mayP ls)).map V.bl))) ?_ ?_ ?_ ?_⟩
    · exact ⟨same_new hM, upd_same⟩
    · rintro i H' _ ⟨s2, _⟩
      exact SqL.of (s2 _ _ (s1 _ _ hd))
    · rintro i y H2 hy ⟨s2, h2⟩
      have S2 := s1.trans s2
      obtain ⟨e, he, q, rfl, hq⟩ := paired_get (pairs_same S2 hp) hy
      have il : i < xs.length := (List.getElem?_eq_some_iff.mp hy).1
      have fin : ∀ H3, Same H2 H3 → ∀ c, mayP ls e = c → ∃ acc, H3 M = some (.lst acc) ∧ acc.length < sizeLine ∧ Same H1 (upd H3 M (.lst (acc ++ [V.bl c]))) ∧ (upd H3 M (.lst (acc ++ [V.bl c]))) M = some (.lst (((Dl.take (i + 1)).map (mayP ls)).map V.bl)) := fun H3 s3 c ec => by
        refine ⟨_, s3 _ _ h2, szl (by rw [List.length_map, List.length_map, List.length_take]; omega), same_mut (s2.trans s3) hM, ?_⟩
        rw [upd_same, List.take_add_one, he, List.map_append, List.map_append]
        show some (HO.lst (_ ++ [V.bl c])) = some (HO.lst (_ ++ [V.bl (mayP ls e)]))
        rw [ec]
      refine ⟨q, _, rfl, SqT.of hq, rfl, _, _, rfl, _, _, rfl, rfl, rfl, ?_⟩
      refine ⟨_, rfl, _, rfl, b, _, rfl, .inl (SqL.of (S2 _ _ hb)), rfl, flat_ivs _, _, rfl, ?_⟩
      rw [in_nvs]
      cases c2 : ls.contains e.2 with
      | false => exact fin H2 (Same.refl _) false (by unfold mayP; rw [c2]; rfl)
      | true =>
        have m2 := List.contains_iff_mem.mp c2
        obtain ⟨ix1, ix2, ix3⟩ := idx_facts m2
        refine ⟨_, rfl, _, rfl, _, rfl, .inl ⟨rfl, _, SqL.of (S2 _ _ hb)⟩, _, rfl, b, nvs ls, _, ls.idxOf e.2, _, rfl, rfl, SqL.of (S2 _ _ hb), rfl, flat_ivs _, ix1, ix2, ix3, ?_⟩
        refine ⟨_, rfl, b, _, rfl, S2 _ _ hb, fun c H3 n3 s3 h3 => ?_⟩
        rw [cut_to, nvs_take] at h3
        refine ⟨c, _, rfl, .inl (SqL.of h3), rfl, flat_ivs _, ?_⟩
        have f := fin H3 s3 (!(ls.take (ls.idxOf e.2)).contains e.1) (by unfold mayP; rw [c2]; rfl)
        rw [← in_nvs] at f
        exact f
    · rintro H2 ⟨s2, h2⟩
      rw [xl, List.take_length] at h2
      refine ⟨M, _, rfl, SqL.of h2, ?_⟩
      rw [any_map]
      exact ⟨_, rfl, kk H2 (s1.trans s2)⟩
end
theorem spl_in {w : Int} : ∀ (r acc : List Int) (st pos : Int), pos = st + (acc.length : Int) → ∀ p ∈ spl w st acc pos r, st ≤ p.1 ∧ p.1 + (p.2.length : Int) ≤ pos + (r.length : Int)
  | [], acc, st, pos, h, p, hp => by
    have e : p = (st, acc) := List.mem_singleton.mp hp
    subst e
    refine ⟨Int.le_refl _, ?_⟩
    show st + (acc.length : Int) ≤ pos + ((0 : Nat) : Int)
    omega
  | x :: r, acc, st, pos, h, p, hp => by
    have le : (((x :: r).length : Nat) : Int) = (r.length : Int) + 1 := by rw [List.length_cons]; rfl
    by_cases c : acc ≠ [] ∧ pos % w = 0
    · rw [spl_cut c] at hp
      rcases List.mem_cons.mp hp with e | hp
      · subst e
        refine ⟨Int.le_refl _, ?_⟩
        show st + (acc.length : Int) ≤ _
        omega
      · obtain ⟨h1, h2⟩ := spl_in r [x] pos (pos + 1) (by show pos + 1 = pos + ((1 : Nat) : Int); rfl) p hp
        omega
    · rw [spl_go c] at hp
      obtain ⟨h1, h2⟩ := spl_in r (acc ++ [x]) st (pos + 1) (by rw [List.length_append]; show pos + 1 = st + ((acc.length + 1 : Nat) : Int); omega) p hp
      omega
theorem allP_fit {w : Int} {n : Nat} : ∀ {l : List Stp} {i : Nat}, (∀ x ∈ l, OkS n x) → ∀ p ∈ allP w i l, 0 ≤ p.2.1 ∧ p.2.1 + (p.2.2.length : Int) ≤ (n : Int)
  | [], _, _, p, hp => by cases hp
  | a :: l, i, h, p, hp => by
    have hp : p ∈ oneP w i a ++ allP w (i + 1) l := hp
    rcases List.mem_append.mp hp with hp | hp
    · have o := h a List.mem_cons_self
      cases a with
      | none => cases hp
      | some fw =>
        obtain ⟨f, ws⟩ := fw
        obtain ⟨o1, o2, o3, _⟩ := o
        obtain ⟨q, hq, rfl⟩ := List.mem_map.mp hp
        obtain ⟨h1, h2⟩ := spl_in ws [] f f (by show f = f + ((0 : Nat) : Int); omega) q hq
        show 0 ≤ q.1 ∧ q.1 + (q.2.length : Int) ≤ (n : Int)
        omega
    · exact allP_fit (fun x hx => h x (List.mem_cons_of_mem _ hx)) p hp
/-- a content behind a piece, behind a fall -/
def behF (c : List Int) (p : Int × (Int × List Int)) : List Int := c.take p.2.1.toNat ++ p.2.2 ++ c.drop (p.2.1.toNat + p.2.2.length)
def pcAt (ps : List (Int × (Int × List Int))) (k : Nat) : Int × (Int × List Int) := ps.getD k (0, (0, []))
def overF (ps : List (Int × (Int × List Int))) (c : List Int) (ls : List Nat) : List Int := ls.foldl (fun c k => behF c (pcAt ps k)) c
theorem behF_len {c : List Int} {p : Int × (Int × List Int)} (h0 : 0 ≤ p.2.1) (h1 : p.2.1 + (p.2.2.length : Int) ≤ (c.length : Int)) : (behF c p).length = c.length := by
  unfold behF
  rw [List.length_append, List.length_append, List.length_take, List.length_drop]
  omega
theorem overF_snoc (ps : List (Int × (Int × List Int))) (c : List Int) (ls : List Nat) (k : Nat) : overF ps c (ls ++ [k]) = behF (overF ps c ls) (pcAt ps k) := by
  unfold overF
  rw [List.foldl_append]
  rfl
theorem overF_len {ps : List (Int × (Int × List Int))} {n : Nat} (hb : ∀ p ∈ ps, 0 ≤ p.2.1 ∧ p.2.1 + (p.2.2.length : Int) ≤ (n : Int)) : ∀ (ls : List Nat) (c : List Int), c.length = n → (∀ k ∈ ls, k < ps.length) → (overF ps c ls).length = n
  | [], c, h, _ => h
  | k :: ls, c, h, hk => by
    have kl : k < ps.length := hk k List.mem_cons_self
    have pm : pcAt ps k ∈ ps := by
      unfold pcAt
      rw [List.getD_eq_getElem?_getD, List.getElem?_eq_getElem kl]
      exact List.getElem_mem kl
    obtain ⟨b1, b2⟩ := hb _ pm
    exact overF_len hb ls (behF c (pcAt ps k)) (by rw [behF_len b1 (by rw [h]; exact b2), h]) fun x hx => hk x (List.mem_cons_of_mem _ hx)
/-- a content, partly overwritten -/
def midF (c : List Int) (n : Nat) (ws : List Int) (j : Nat) : List Int := c.take n ++ ws.take j ++ c.drop (n + j)
theorem midF_set {c : List Int} {n : Nat} {ws : List Int} {j : Nat} (hj : j < ws.length) (hn : n + ws.length ≤ c.length) : (midF c n ws j).set (n + j) ws[j] = midF c n ws (j + 1) := by
  unfold midF
  have l1 : (c.take n ++ ws.take j).length = n + j := by rw [List.length_append, List.length_take, List.length_take]; omega
  rw [List.drop_eq_getElem_cons (show n + j < c.length by omega), List.set_append, if_neg (by omega), l1, Nat.sub_self, List.set_cons_zero, List.take_add_one, List.getElem?_eq_getElem hj, Nat.add_assoc]
  show _ = c.take n ++ (ws.take j ++ [ws[j]]) ++ _
  rw [List.append_assoc, List.append_assoc, List.append_assoc]
  rfl
theorem midF_len {c : List Int} {n : Nat} {ws : List Int} {j : Nat} (hj : j ≤ ws.length) (hn : n + ws.length ≤ c.length) : (midF c n ws j).length = c.length := by
  unfold midF
  rw [List.length_append, List.length_append, List.length_take, List.length_take, List.length_drop]
  omega
theorem ivs_set (c : List Int) (n : Nat) (z : Int) : (ivs c).set n (.int z) = ivs (c.set n z) := by unfold ivs; rw [List.map_set]
theorem cut_fr (xs : List V) (n : Nat) : cutV xs (some (n : Int)) none = xs.drop n := by
  unfold cutV
  have e1 : HT.sIx xs.length 0 (some (n : Int)) = min n xs.length := HT.sIx_nat _ _ n
  have e2 : HT.sIx xs.length xs.length none = xs.length := rfl
  rw [e1, e2]
  by_cases h : n ≤ xs.length
  · rw [Nat.min_eq_left h, List.take_of_length_le (by rw [List.length_drop]; exact Nat.le_refl _)]
  · rw [Nat.min_eq_right (by omega), Nat.sub_self, List.take_zero, List.drop_of_length_le (by omega)]
theorem ivs_take (c : List Int) (n : Nat) : (ivs c).take n = ivs (c.take n) := by unfold ivs; rw [List.map_take]
theorem ivs_drop (c : List Int) (n : Nat) : (ivs c).drop n = ivs (c.drop n) := by unfold ivs; rw [List.map_drop]
theorem ivs_app (a b : List Int) : ivs a ++ ivs b = ivs (a ++ b) := by unfold ivs; rw [List.map_append]
def sp_behind : Sp := fun vs H Q _ => ∃ (ca : Addr) (c : List Int) (x : V) (p : Int × (Int × List Int)), vs = [.ref ca, x] ∧ H ca = some (.tup (ivs c)) ∧ PieceA H x p ∧ 0 ≤ p.2.1 ∧ p.2.1 + (p.2.2.length : Int) ≤ (c.length : Int) ∧ c.length ≤ 1000 ∧ ∀ a H', Same H H' → H' a = some (.tup (ivs (behF c p))) → Q (.ref a) H'
def sp_over (C : Addr) : Sp := fun vs H Q _ => ∃ (x : V) (pl : Pl) (sl ql el b : Addr) (ls : List Nat), vs = [x, .ref b] ∧ PlanF C H x pl sl ql el ∧ H b = some (.lst (nvs ls)) ∧ (∀ k ∈ ls, k < (allP pl.w 0 pl.sts).length) ∧ ls.length ≤ 60 ∧ ∀ a H', Same H H' → H' a = some (.tup (ivs (overF (allP pl.w 0 pl.sts) pl.cs ls))) → Q (.ref a) H'
def sp_left : Sp := fun vs H Q _ => ∃ (a ca sa b : Addr) (sp : Int) (xs : List V) (sts : List Stp) (cs : List Int) (ls : List Nat), vs = [.ref a, .ref b] ∧ H a = some (.tup [.ref ca, .int sp, .ref sa]) ∧ H ca = some (.tup (ivs cs)) ∧ H sa = some (.lst xs) ∧ Paired (StepV H) xs sts ∧ 0 < sp ∧ xs.length ≤ 100 ∧
  (∀ x ∈ sts, OkS cs.length x) ∧ cs.length ≤ 24 ∧ H b = some (.lst (nvs ls)) ∧ (∀ k ∈ ls, k < (allP sp 0 sts).length) ∧ ls.length ≤ 60 ∧ ∀ t H', Same H H' → H' t = some (.tup (ivs (overF (allP sp 0 sts) cs ls))) → Q (.ref t) H'
section
variable {P : Program} {w : World} {K : PySem.W.Frag} {mg : Str → Option Value} {base : Heap}
theorem ok_behind {f : Addr} {fd : FuncData} (F : Fun K "behind_piece" "behind_piece" s_behind_piece f fd) (T : Txt mg) : FnOk P w K mg base CX0 1 f fd ["content", "piece"] sp_behind := by
  refine F.ok sc_behind_piece (fun vs H Q E h => ?_) (fun cdv A outer s H vs Q E hr h => ?_)
  · obtain ⟨_, _, _, _, rfl, _⟩ := h
    rfl
  obtain ⟨ca, c, x, ⟨ix, pf, ws⟩, rfl, hca, ⟨t, b, rfl, ht, hb⟩, h0, h1, cl, k⟩ := h
  have h0 : 0 ≤ pf := h0
  have h1 : pf + (ws.length : Int) ≤ (c.length : Int) := h1
  have hb : H b = some (.tup (ivs ws)) := hb
  obtain ⟨n, rfl⟩ := Int.eq_ofNat_of_zero_le h0
  refine ⟨_, (pss_cons (ps_asg (pv 1) (pg_tup rfl (pgs_cons (pg_name (i := 2) sc_behind_piece.nd rfl (Or.inl rfl)) (pgs_cons (pg_name (i := 3) sc_behind_piece.nd rfl (Or.inl rfl)) (pgs_cons (pg_name (i := 4) sc_behind_piece.nd rfl (Or.inl rfl)) pgs_nil)))))
    (pss_one (ps_ret (pe_op op_catT' (pe_op op_catT' (pe_slice sl_tup' (pv 0) po_none (po_some (pv 3))) (pv 4)) (pe_slice sl_tup' (pv 0) (po_some (pe_op op_add (pv 3) (pe_callB call_len' (by rfl) T.len (by decide +kernel) (pa_cons (pv 4) pa_nil)))) po_none))))), ?_⟩
  refine ⟨_, rfl, t, _, rfl, SqT.of ht, rfl, _, _, rfl, _, _, rfl, _, _, rfl, rfl, ?_⟩
  refine ⟨_, rfl, _, rfl, _, rfl, ca, _, rfl, hca, fun a1 H1 s1 j1 => ?_⟩
  refine ⟨_, rfl, a1, b, _, _, rfl, rfl, j1, s1 _ _ hb, sz ?_, fun a2 H2 s2 j2 => ?_⟩
  · refine Nat.le_trans (Nat.add_le_add (cutV_length _ _ _) (Nat.le_refl _)) ?_
    rw [ivs_len, ivs_len]
    omega
  rw [cut_to, ivs_take, ivs_app] at j2
  have S2 := s1.trans s2
  refine ⟨_, rfl, _, rfl, _, rfl, b, _, rfl, .inr (S2 _ _ hb), _, _, rfl, rfl, _, rfl, ca, _, rfl, S2 _ _ hca, fun a3 H3 s3 j3 => ?_⟩
  rw [ivs_len, show ((n : Nat) : Int) + ((ws.length : Nat) : Int) = ((n + ws.length : Nat) : Int) from rfl, cut_fr, ivs_drop] at j3
  refine ⟨a2, a3, _, _, rfl, rfl, s3 _ _ j2, j3, sz ?_, fun a4 H4 s4 j4 => ?_⟩
  · rw [ivs_len, ivs_len, List.length_append, List.length_take, List.length_drop]
    omega
  rw [ivs_app] at j4
  exact k a4 H4 (S2.trans (s3.trans s4)) j4
theorem ok_over {f C : Addr} {fd : FuncData} (F : Fun K "overwritten" "overwritten" s_overwritten f fd) (T : Txt mg) (TC : PlanC K mg C) (P_base : PropC P w K mg base C "base" (sp_p_base C)) (P_pieces : PropC P w K mg base C "pieces" (sp_p_pieces C))
    (c_behind_piece : Cal P w K mg base 1 "behind_piece" ["content", "piece"] sp_behind) : FnOk P w K mg base CX0 3 f fd ["plan", "fall"] (sp_over C) := by
  refine F.ok sc_overwritten (fun vs H Q E h => ?_) (fun cdv A outer s H vs Q E hr h => ?_)
  · obtain ⟨_, _, _, _, _, _, _, rfl, _⟩ := h
    rfl
  obtain ⟨x, pl, sl, ql, el, b, ls, rfl, pF, hb, lb, ll, k⟩ := h
  have ib := allP_fit (w := pl.w) (i := 0) pF.ok.st
  have c24 := pF.ok.c24
  obtain ⟨pa, ca, xs0, ys0, rfl, pX, hca, hst, hps⟩ := pF.ex
  obtain ⟨⟨dx, fs, hx, _⟩, _⟩ := id pX
  have yl := paired_len hps
  refine ⟨_, (pss_cons (ps_par (i := 2) (j := 3) rfl sc_overwritten.nd rfl rfl (by decide) rfl rfl (pa_cons (pe_propC TC.cl P_base hr (pv 0)) (pa_cons (pe_propC TC.cl P_pieces hr (pv 0)) pa_nil)) (by rfl))
    (pss_cons (ps_for PassesOwn.never rfl (pi_list (pv 1)) (pg_name (i := 4) sc_overwritten.nd rfl (Or.inl rfl))
      (pss_one (ps_set (i := 2) sc_overwritten.nd rfl (Or.inl rfl) (pe_cal c_behind_piece hr (pa_cons (pv 2) (pa_cons (pe_ix ix_seq' (pv 3) (pv 4) (fun _ _ => rfl)) pa_nil))))))
    (pss_one (ps_ret (pv 2))))), ?_⟩
  refine ⟨_, rfl, pa, dx, fs, rfl, hx, pa, ca, sl, ql, el, pl, xs0, ys0, rfl, pX, ?_⟩
  refine ⟨_, rfl, pa, dx, fs, rfl, hx, pa, ca, sl, ql, el, pl, xs0, ys0, rfl, pX, fun l1 H1 s1 n1 h1 => ?_⟩
  refine ⟨_, _, rfl, ?_⟩
  refine ⟨_, rfl, b, rfl, ⟨_, SqL.of (s1 _ _ hb)⟩, for_list (K := K) (a := b) (xs := nvs ls) (fun i σ' H' => ∃ cc v4, σ' = [some (.ref pa), some (.ref b), some (.ref cc), some (.ref l1), v4] ∧ Same H1 H' ∧ H' cc = some (.tup (ivs (overF (allP pl.w 0 pl.sts) pl.cs (ls.take i))))) ?_ ?_ ?_ ?_⟩
  · exact ⟨ca, _, rfl, Same.refl _, s1 _ _ hca⟩
  · rintro i σ' H' _ ⟨_, _, rfl, s2, _⟩
    exact SqL.of (s2 _ _ (s1 _ _ hb))
  · rintro i y σ' H' hy ⟨cc, v4, rfl, s2, h2⟩
    obtain ⟨il, rfl⟩ := nvs_lt hy
    have kl := lb _ (List.getElem_mem il)
    have kl2 : ls[i] < ys0.length := by omega
    obtain ⟨e, he, ep⟩ := paired_get (pieceA_st (s1.trans s2) hps) (List.getElem?_eq_getElem kl2)
    have em := ib _ (List.mem_of_getElem? he)
    have len := overF_len ib (ls.take i) pl.cs rfl fun k hk => lb k (List.mem_of_mem_take hk)
    refine ⟨_, rfl, _, rfl, _, rfl, l1, _, _, _, rfl, rfl, .inl (s2 _ _ h1), atI_nat (List.getElem?_eq_getElem kl2), ?_⟩
    refine ⟨cc, _, _, e, rfl, h2, ep, em.1, by rw [len]; exact em.2, by rw [len]; omega, fun a H2 s3 h3 => ⟨a, _, rfl, s2.trans s3, ?_⟩⟩
    have tk : ls.take (i + 1) = ls.take i ++ [ls[i]] := by rw [List.take_add_one, List.getElem?_eq_getElem il]; rfl
    rw [h3, tk, overF_snoc]
    unfold pcAt
    rw [List.getD_eq_getElem?_getD, he]
    rfl
  · rintro σ' H' ⟨cc, v4, rfl, s2, h2⟩
    rw [nvs_len, List.take_length] at h2
    exact ⟨_, rfl, k cc H' (s1.trans s2) h2⟩
theorem ok_left {f : Addr} {fd : FuncData} (F : Fun K "_law_left" "_law_left" s_l_left f fd) (T : Txt mg) (c_l_parts : Cal P w K mg base 2 "_law_parts" ["_law_plan_here"] sp_partsX) : FnOk P w K mg base CX0 3 f fd ["_law_plan_here", "_law_some_here"] sp_left := by
  refine F.ok sc_l_left (fun vs H Q E h => ?_) (fun cdv A outer s H vs Q E hr h => ?_)
  · obtain ⟨_, _, _, _, _, _, _, _, _, rfl, _⟩ := h
    rfl
  obtain ⟨a, ca, sa, b, sp, xs, sts, cs, ls, rfl, ha, hca, hsa, hst, hsp, hxl, oks, c24, hb, lb, ll, k⟩ := h
  have ib := allP_fit (w := sp) (i := 0) oks
  have hw : ∀ f ws, some (f, ws) ∈ sts → ws.length ≤ 100 := fun f ws hm => by
    obtain ⟨o1, _, o3, _⟩ := oks _ hm
    omega
  refine ⟨_, (pss_cons (ps_par (i := 2) (j := 3) rfl sc_l_left.nd rfl rfl (by decide) rfl rfl (pa_cons (pe_cal c_l_parts hr (pa_cons (pv 0) pa_nil)) (pa_cons (pe_callTy call_list' (by rfl) T.list (by decide +kernel) (pa_cons (pe_ix ix_seq' (pv 0) pe_int (fun _ _ => rfl)) pa_nil)) pa_nil)) (by rfl))
    (pss_cons (ps_for PassesOwn.never rfl (pi_list (pv 1)) (pg_name (i := 4) sc_l_left.nd rfl (Or.inl rfl))
      (pss_cons (ps_asg (pe_ix ix_seq' (pv 2) (pv 4) (fun _ _ => rfl)) (pg_tup rfl (pgs_cons (pg_name (i := 5) sc_l_left.nd rfl (Or.inl rfl)) (pgs_cons (pg_name (i := 6) sc_l_left.nd rfl (Or.inl rfl)) (pgs_cons (pg_name (i := 7) sc_l_left.nd rfl (Or.inl rfl)) pgs_nil)))))
    (pss_one (ps_for PassesOwn.never rfl (pi_range1 rfl T.range (pa_cons (pe_callB call_len' (by rfl) T.len (by decide +kernel) (pa_cons (pv 7) pa_nil)) pa_nil)) (pg_name (i := 8) sc_l_left.nd rfl (Or.inl rfl))
      (pss_one (ps_asg (pe_ix ix_seq' (pv 7) (pv 8) (fun _ _ => rfl)) (pg_sub (pv 3) (pe_op op_add (pv 6) (pv 8)) set_list)))))))
    (pss_one (ps_ret (pe_callTy call_tuple' (by rfl) T.tuple (by decide +kernel) (pa_cons (pv 3) pa_nil)))))), ?_⟩
  refine ⟨_, rfl, a, ca, sa, sp, xs, sts, rfl, ha, hsa, hst, hsp, hxl, hw, fun l1 H1 ys s1 n1 h1 hp => ?_⟩
  refine ⟨_, rfl, a, _, _, _, rfl, rfl, .inr (s1 _ _ ha), atI_nat (j := 0) rfl, ca, _, rfl, .inr (s1 _ _ hca), fun f0 H2 n2 s2 h2 => ?_⟩
  have yl := paired_len hp
  refine ⟨_, _, rfl, ?_⟩
  refine ⟨_, rfl, b, rfl, ⟨_, SqL.of (s2 _ _ (s1 _ _ hb))⟩, for_list (K := K) (a := b) (xs := nvs ls) (fun i σ' H' => ∃ v4 v5 v6 v7 v8, σ' = [some (.ref a), some (.ref b), some (.ref l1), some (.ref f0), v4, v5, v6, v7, v8] ∧ Same H1 H' ∧ H' f0 = some (.lst (ivs (overF (allP sp 0 sts) cs (ls.take i))))) ?_ ?_ ?_ ?_⟩
  · exact ⟨_, _, _, _, _, rfl, s2, h2⟩
  · rintro i σ' H' _ ⟨_, _, _, _, _, rfl, s3, _⟩
    exact SqL.of (s3 _ _ (s1 _ _ hb))
  · rintro i y σ' H3 hy ⟨v4, v5, v6, v7, v8, rfl, s3, h3⟩
    obtain ⟨il, rfl⟩ := nvs_lt hy
    have kl := lb _ (List.getElem_mem il)
    have kl2 : ls[i] < ys.length := by omega
    obtain ⟨⟨ix, pf, ws⟩, he, t, b', ey, ht, hb'⟩ := paired_get (pieceA_st s3 hp) (List.getElem?_eq_getElem kl2)
    have em := ib _ (List.mem_of_getElem? he)
    have e0 : 0 ≤ pf := em.1
    have e1 : pf + (ws.length : Int) ≤ (cs.length : Int) := em.2
    have hb' : H3 b' = some (.tup (ivs ws)) := hb'
    obtain ⟨n, rfl⟩ := Int.eq_ofNat_of_zero_le e0
    have len := overF_len ib (ls.take i) cs rfl fun k hk => lb k (List.mem_of_mem_take hk)
    have hcl : n + ws.length ≤ (overF (allP sp 0 sts) cs (ls.take i)).length := by rw [len]; omega
    generalize hc : overF (allP sp 0 sts) cs (ls.take i) = c at h3 len hcl
    refine ⟨_, rfl, _, rfl, l1, _, _, _, rfl, rfl, .inl (s3 _ _ h1), atI_nat (List.getElem?_eq_getElem kl2), ?_⟩
    rw [ey]
    refine ⟨t, _, rfl, SqT.of ht, rfl, _, _, rfl, _, _, rfl, _, _, rfl, rfl, ?_⟩
    refine ⟨_, rfl, b', _, rfl, .inr hb', _, rfl, by rw [ivs_len]; omega, by rw [ivs_len]; omega, for_range (lo := 0) (fun j σ' H' => ∃ v8, σ' = [some (.ref a), some (.ref b), some (.ref l1), some (.ref f0), some (.int ((ls[i] : Nat) : Int)), some (.int ix), some (.int (n : Nat)), some (.ref b'), v8] ∧ Same H1 H' ∧ H' b' = some (.tup (ivs ws)) ∧ H' f0 = some (.lst (ivs (midF c n ws j)))) ?_ ?_ ?_⟩
    · refine ⟨_, rfl, s3, hb', ?_⟩
      rw [h3]
      unfold midF
      rw [List.take_zero, List.append_nil, Nat.add_zero, List.take_append_drop]
    · rintro j σ' H4 hj ⟨v8, rfl, s4, hb4, h4⟩
      rw [ivs_len, Int.toNat_natCast] at hj
      have hj : j < ws.length := hj
      have bf : b' ≠ f0 := fun e => by rw [e, h4] at hb4; cases hb4
      refine ⟨_, rfl, _, rfl, b', _, _, _, rfl, rfl, .inr hb4, at_of (Int.zero_add _) (ivs_get hj), ?_⟩
      refine ⟨_, rfl, _, rfl, _, rfl, _, _, rfl, rfl, f0, _, _, n + j, rfl, rfl, h4, ?_, ?_⟩
      · unfold ixN
        rw [if_pos (by omega), if_pos (by rw [ivs_len, midF_len (Nat.le_of_lt hj) hcl]; omega)]
        congr 1
        omega
      · refine ⟨_, rfl, same_mut s4 n2, by rw [upd_ne bf]; exact hb4, ?_⟩
        rw [upd_same, ivs_set, midF_set hj hcl]
    · rintro σ' H4 ⟨v8, rfl, s4, hb4, h4⟩
      rw [ivs_len, Int.toNat_natCast] at h4
      refine ⟨_, _, _, _, _, rfl, s4, ?_⟩
      have tk : ls.take (i + 1) = ls.take i ++ [ls[i]] := by rw [List.take_add_one, List.getElem?_eq_getElem il]; rfl
      rw [h4, tk, overF_snoc, hc]
      unfold pcAt
      rw [List.getD_eq_getElem?_getD, he]
      show some (HO.lst (ivs (midF c n ws ws.length))) = some (HO.lst (ivs (c.take (((n : Nat) : Int)).toNat ++ ws ++ c.drop ((((n : Nat) : Int)).toNat + ws.length))))
      unfold midF
      rw [List.take_length, Int.toNat_natCast]
  · rintro σ' H3 ⟨v4, v5, v6, v7, v8, rfl, s3, h3⟩
    rw [nvs_len, List.take_length] at h3
    exact ⟨_, rfl, f0, _, rfl, .inl h3, fun t H4 s4 h4 => k t H4 (s1.trans (s3.trans s4)) h4⟩
end
end Af

set_option Elab.async false
set_option linter.all false
set_option maxRecDepth 100000
set_option maxHeartbeats 4000000
namespace Af
open PySem L2
abbrev s_are_let : Stmt := top 18
abbrev N_are_let : List Str := ["thing"]
theorem sc_are_let : FnScope N_are_let ["thing"] (defScope s_are_let) := ⟨rfl, rfl, rfl, by decide +kernel, rfl, by decide +kernel, by decide +kernel⟩

abbrev s_is_pattern : Stmt := top 17
abbrev N_is_pattern : List Str := ["cells", "thing", "cell"]
theorem sc_is_pattern : FnScope N_is_pattern ["cells", "thing"] (defScope s_is_pattern) := ⟨rfl, rfl, rfl, by decide +kernel, rfl, by decide +kernel, by decide +kernel⟩

abbrev s_last_epoch : Stmt := top 36
abbrev N_last_epoch : List Str := ["plan", "fall"]
theorem sc_last_epoch : FnScope N_last_epoch ["plan", "fall"] (defScope s_last_epoch) := ⟨rfl, rfl, rfl, by decide +kernel, rfl, by decide +kernel, by decide +kernel⟩

def sp_ascT : Sp := fun vs H Q _ => ∃ (a : Addr) (ws : List Int), vs = [.ref a] ∧ H a = some (.tup (ivs ws)) ∧ ws.length ≤ 1000 ∧ ∀ H', Same H H' → Q (.bl (ascB ws)) H'
def sp_let (K : PySem.W.Frag) : Sp := fun vs H Q _ => ∃ (v : V) (d : PyData), vs = [v] ∧ Dx K H v d ∧ WdD d ∧ ∀ H', Same H H' → Q (.bl (letD d)) H'
def sp_is_pattern (K : PySem.W.Frag) : Sp := fun vs H Q _ => ∃ (n : Int) (v : V) (d : PyData), vs = [.int n, v] ∧ Dx K H v d ∧ SzP d ∧ ∀ H', Same H H' → Q (.bl (patB n d)) H'
def sp_agrees : Sp := fun vs H Q _ => ∃ (a ca : Addr) (n : Nat) (ps : Ptn) (c : List Int), vs = [.ref a, .ref ca] ∧ PatV H a ps ∧ OkPt n ps ∧ ps.length ≤ 1000 ∧ H ca = some (.tup (ivs c)) ∧ n ≤ c.length ∧ ∀ H', Same H H' → Q (.bl (agB ps c)) H'
section
variable {P : Program} {w : World} {K : PySem.W.Frag} {mg : Str → Option Value} {base : Heap}
theorem ok_ascT {f : Addr} {fd : FuncData} (F : Fun K "is_ascending" "is_ascending" s_is_ascending f fd) (T : Txt mg) : FnOk P w K mg base CX0 1 f fd ["things"] sp_ascT := by
  refine F.ok sc_is_ascending (fun vs H Q E h => ?_) (fun cdv A outer s H vs Q E hr h => ?_)
  · obtain ⟨_, _, rfl, _⟩ := h
    rfl
  obtain ⟨a, ws, rfl, ha, wl, k⟩ := h
  refine ⟨_, (pss_one (ps_ret (pe_callB (cr_all rfl) (by rfl) T.all (by decide +kernel) (pa_cons (pe_lc (own := [("at", 1)]) (g := (gName 1)) (tt := tYes) rfl sc_is_ascending.nd (pi_range1 rfl T.range (pa_cons (pe_op op_sub (pe_callB call_len' (by rfl) T.len (by decide +kernel) (pa_cons (pv 0) pa_nil)) pe_int) pa_nil)) (blkOk_by (own := [("at", 1)]) (N := N_is_ascending) (sc := defScope s_is_ascending) (by decide +kernel)) (fun _ _ _ _ _ => pg_name (i := 1) sc_is_ascending.nd rfl (Or.inl rfl)) (fun _ _ _ _ _ => pts_nil) (fun _ _ _ _ _ => (pe_cmpR op_lt (pe_ix ix_seq' (pv 0) (pv 1) (fun _ _ => rfl)) (pe_ix ix_seq' (pv 0) (pe_op op_add (pv 1) pe_int) (fun _ _ => rfl)) (nomark _)))) pa_nil)))), ?_⟩
  refine ⟨_, rfl, a, _, rfl, .inr ha, _, _, rfl, rfl, _, rfl, by rw [ivs_len]; omega, by rw [ivs_len]; omega, fun D hD => lc_range (lo := 0) (fun i H' => Same H H' ∧ H' D = some (.lst (((List.range i).map (stI ws)).map V.bl))) ?_ ?_ ?_⟩
  · exact ⟨same_new hD, upd_same⟩
  · rintro i H' hi ⟨s1, h1⟩
    rw [ivs_len] at hi
    have i1 : i < ws.length := by omega
    have i2 : i + 1 < ws.length := by omega
    refine ⟨rfl, _, rfl, _, rfl, a, _, _, _, rfl, rfl, .inr (s1 _ _ ha), at_of (Int.zero_add _) (ivs_at i1), _, rfl, _, rfl, _, _, rfl, rfl, a, _, _, _, rfl, rfl, .inr (s1 _ _ ha), at_of (by omega) (ivs_at i2), _, _, rfl, rfl, ?_⟩
    refine ⟨_, h1, szl (by rw [List.length_map, List.length_map, List.length_range]; omega), same_mut s1 hD, ?_⟩
    rw [upd_same, List.range_succ, List.map_append, List.map_append]
    rfl
  · rintro H1 ⟨s1, h1⟩
    refine ⟨D, _, rfl, SqL.of h1, ?_⟩
    rw [all_mapP, ivs_len, show (((ws.length : Nat) : Int) - 1).toNat = ws.length - 1 by omega, asc_range]
    exact k H1 s1
theorem ok_let {f : Addr} {fd : FuncData} (F : Fun K "are_let" "are_let" s_are_let f fd) (T : Txt mg) (c_are_worths : Cal P w K mg base 3 "are_worths" ["thing"] (sp_are_worths K)) (c_is_ascending : Cal P w K mg base 1 "is_ascending" ["things"] sp_ascT) : FnOk P w K mg base CX0 4 f fd ["thing"] (sp_let K) := by
  refine F.ok sc_are_let (fun vs H Q E h => ?_) (fun cdv A outer s H vs Q E hr h => ?_)
  · obtain ⟨_, _, rfl, _⟩ := h
    rfl
  obtain ⟨v, d, rfl, dx, wd, k⟩ := h
  refine ⟨_, (pss_one (ps_ret (pe_and (pe_cal c_are_worths hr (pa_cons (pv 0) pa_nil)) (pe_one (pe_cal c_is_ascending hr (pa_cons (pv 0) pa_nil)))))), ?_⟩
  refine ⟨_, rfl, v, rfl, dx_th1 dx wd, fun H1 s1 => ?_⟩
  rw [dx_worths dx]
  refine ⟨_, rfl, ?_⟩
  unfold letD at k
  cases c : worthsD d with
  | false =>
    rw [c] at k
    exact k H1 s1
  | true =>
    rw [c, Bool.true_and] at k
    obtain ⟨a, rfl, ha, _, _⟩ := dx_let dx c
    have wl : (intsD d).length ≤ 1000 := by
      cases d with
      | tuple ds => show (ds.map intD).length ≤ 1000; rw [List.length_map]; exact wd ds (.inl rfl)
      | _ => exact Nat.zero_le _
    exact ⟨_, rfl, a, _, rfl, s1 _ _ ha, wl, fun H2 s2 => k H2 (s1.trans s2)⟩
theorem ok_is_pattern {f : Addr} {fd : FuncData} (F : Fun K "is_pattern" "is_pattern" s_is_pattern f fd) (T : Txt mg) (t_dict : mg "dict" = none) (c_is_index : Cal P w K mg base 2 "is_index" ["thing", "many"] (sp_is_index K)) (c_are_let : Cal P w K mg base 4 "are_let" ["thing"] (sp_let K)) : FnOk P w K mg base CX0 5 f fd ["cells", "thing"] (sp_is_pattern K) := by
  refine F.ok sc_is_pattern (fun vs H Q E h => ?_) (fun cdv A outer s H vs Q E hr h => ?_)
  · obtain ⟨_, _, _, rfl, _⟩ := h
    rfl
  obtain ⟨n, v, d, rfl, dx, wd, k⟩ := h
  refine ⟨_, (pss_cons (ps_if (pt_not (pt_val (pe_callB call_isi' (by rfl) T.isinstance (by decide +kernel) (pa_cons (pv 1) (pa_cons (pe_bltn (v := .ty "dict") (by rfl) t_dict (by decide +kernel) rfl) pa_nil)))))
      (pss_one (ps_ret pe_bl))
      pss_nil)
    (pss_one (ps_ret (pe_callB (cr_all rfl) (by rfl) T.all (by decide +kernel) (pa_cons (pe_lock (pe_lc (own := [("cell", 2)]) (g := (gName 2)) (tt := tYes) rfl sc_is_pattern.nd (pi_keys (pv 1)) (blkOk_by (own := [("cell", 2)]) (N := N_is_pattern) (sc := defScope s_is_pattern) (by decide +kernel)) (fun _ _ _ _ _ => pg_name (i := 2) sc_is_pattern.nd rfl (Or.inl rfl)) (fun _ _ _ _ _ => pts_nil) (fun _ _ _ _ _ => (pe_and (pe_cal c_is_index hr (pa_cons (pv 2) (pa_cons (pv 0) pa_nil))) (pe_one (pe_cal c_are_let hr (pa_cons (pe_dget hr.u1 (pv 1) (pv 2) (fun _ _ => rfl)) pa_nil))))))) pa_nil))))), ?_⟩
  rcases dx_dict_or dx with ⟨a, rows, kvs, rfl, ha, rfl, dr⟩ | ⟨tn, ty, no, nd⟩
  · obtain ⟨len, knd, small⟩ := wd kvs rfl
    have rnd := dr.nd knd
    have drL : ∀ od, DxKv K (upd H a (.frz od (.dK rows))) rows kvs := fun od => dr.lock ha
    have rl := dr.len
    refine ⟨_, rfl, _, "dict", "dict", rfl, ty_d ha, by decide, _, rfl, ?_⟩
    rw [isB_dd]
    refine iteF ⟨a, _, ha, True.intro, fun od => ?_⟩
    refine ⟨_, rfl, a, od, rfl, .inl ⟨rows, upd_same, fun D hD => lc_it (walk_keys (d := a) (o := od) (kvs := rows)) (fun i H' => Same (upd H a (.frz od (.dK rows))) H' ∧ H' D = some (.lst (((kvs.take i).map fun p => idxD n p.1 && letD p.2).map V.bl))) ?_ ?_ ?_ ?_⟩⟩
    · exact ⟨same_new hD, upd_same⟩
    · rintro i H' _ ⟨s1, _⟩
      exact s1 _ _ upd_same
    · rintro i x H' H1 hi ⟨s1, h1⟩ ⟨rfl, ky, v, hy, rfl⟩
      obtain ⟨dv, hdv, dq⟩ := (drL od).at hy
      have dq1 : Dx K H1 v dv := Dx.same s1 dq
      have fin : ∀ H2 b, Same H1 H2 → (idxD n (keyD ky) && letD dv) = b → ∃ acc, H2 D = some (.lst acc) ∧ acc.length < sizeLine ∧ Same (upd H a (.frz od (.dK rows))) (upd H2 D (.lst (acc ++ [V.bl b]))) ∧ (upd H2 D (.lst (acc ++ [V.bl b]))) D = some (.lst (((kvs.take (i + 1)).map fun p => idxD n p.1 && letD p.2).map V.bl)) := fun H2 b s2 e => by
        refine ⟨_, s2 _ _ h1, szl (by rw [List.length_map, List.length_map, List.length_take]; omega), same_mut (s1.trans s2) hD, ?_⟩
        rw [upd_same, List.take_add_one, hdv, List.map_append, List.map_append, ← e]
        rfl
      obtain ⟨tn, ty⟩ := key_ty (K := K) (H := H1) ky
      refine ⟨rfl, _, rfl, _, rfl, _, _, tn, rfl, ty, ?_⟩
      rw [key_idx]
      refine ⟨_, rfl, ?_⟩
      cases c : idxD n (keyD ky) with
      | false => exact fin _ _ (Same.refl _) (by rw [c]; rfl)
      | true =>
        refine ⟨_, rfl, _, rfl, a, v, rfl, .inl ⟨rows, ky, .inr ⟨od, s1 _ _ upd_same⟩, rfl, (valV_at rnd hy).symm⟩, v, dv, rfl, dq1, small _ (List.mem_of_getElem? hdv), fun H2 s2 => ?_⟩
        exact fin H2 _ s2 (by rw [c]; rfl)
    · rintro H1 ⟨s1, h1⟩
      rw [rl, List.take_length] at h1
      have S := lock_same ha s1
      have nDa : D ≠ a := fun z => by
        rw [z, upd_same] at hD
        cases hD
      have h2 : (upd H1 a (.dK rows)) D = some (.lst _) := (upd_ne nDa).trans h1
      refine ⟨s1 _ _ upd_same, D, _, rfl, SqL.of h2, ?_⟩
      rw [all_mapP]
      exact k _ S
  · refine ⟨_, rfl, v, tn, "dict", rfl, ty, by decide, _, rfl, ?_⟩
    rw [no]
    have e : patB n d = false := by
      cases d with
      | dict kvs => exact absurd rfl (nd kvs)
      | _ => rfl
    have kk := k H (Same.refl _)
    rw [e] at kk
    exact iteT kk
def sp_check_pattern (C : Addr) : Sp := fun vs H Q _ => ∃ (x : V) (pl : Pl) (sl ql el a : Addr) (ps : Ptn), vs = [x, .ref a] ∧ PlanF C H x pl sl ql el ∧ PatV H a ps ∧ OkPt pl.cs.length ps ∧ ps.length ≤ 1000 ∧ ∀ H', Same H H' → Q .non H'
end
def lastE (es : List Int) (ls : List Nat) : Int := if ls = [] then 0 else gE es (ls.getD (ls.length - 1) 0)
theorem at_last {xs : List V} (h : xs ≠ []) : atI xs (-1) = xs[xs.length - 1]? := by
  have l : 0 < xs.length := List.length_pos_iff.mpr h
  unfold atI ixN
  rw [if_neg (by decide), if_pos (by omega)]
  show xs[((xs.length : Int) + -1).toNat]? = _
  rw [show ((xs.length : Int) + -1).toNat = xs.length - 1 by omega]
theorem idx_natP {n p : Nat} (h : p < n) : idxB (n : Int) (.int ((p : Nat) : Int)) = true := by
  show (decide ((0 : Int) ≤ (p : Int)) && decide ((p : Int) < (n : Int))) = true
  rw [decide_eq_true (by omega), decide_eq_true (by omega)]
  rfl
structure FlV (C : Addr) (H : Hp) (x : V) (pl : Pl) (sl ql el b : Addr) (ls : List Nat) : Prop where
  pF : PlanF C H x pl sl ql el
  hb : H b = some (.lst (nvs ls))
  lb : ∀ p ∈ ls, p < (rkP pl).length
  lw : lawB (rkP pl) ls = true
  ll : ls.length ≤ 60
theorem FlV.same {C : Addr} {H H' : Hp} {x : V} {pl : Pl} {sl ql el b : Addr} {ls : List Nat} (f : FlV C H x pl sl ql el b ls) (s : Same H H') : FlV C H' x pl sl ql el b ls := ⟨f.pF.same s, s _ _ f.hb, f.lb, f.lw, f.ll⟩
def sp_last (C : Addr) : Sp := fun vs H Q _ => ∃ (x : V) (pl : Pl) (sl ql el b : Addr) (ls : List Nat), vs = [x, .ref b] ∧ FlV C H x pl sl ql el b ls ∧ ∀ H', Same H H' → Q (.int (lastE (rkP pl) ls)) H'
section
variable {P : Program} {w : World} {K : PySem.W.Frag} {mg : Str → Option Value} {base : Heap}
theorem ok_last {f C CE fI : Addr} {fd fdI : FuncData} (F : Fun K "last_epoch" "last_epoch" s_last_epoch f fd) (T : Txt mg) (TC : PlanC K mg C) (M_eo : Meth K C "epoch_of" fI)
    (G_eo : FnOk P w K mg base (L2.CX P w) 3 fI fdI ["self", "piece"] (sp_epoch_of K C CE)) (b_eo : Binds K fdI ["self", "piece"] []) : FnOk P w K mg base CX0 4 f fd ["plan", "fall"] (sp_last C) := by
  refine F.ok sc_last_epoch (fun vs H Q E h => ?_) (fun cdv A outer s H vs Q E hr h => ?_)
  · obtain ⟨_, _, _, _, _, _, _, rfl, _⟩ := h
    rfl
  obtain ⟨x, pl, sl, ql, el, b, ls, rfl, fl, k⟩ := h
  refine ⟨_, (pss_one (ps_ret (pe_ifExp (pt_truth (pv 1) (by intro _; rfl)) (pe_methX (E := fun _ => E0) (pl := _) (pv 0) TC.cl M_eo G_eo (hr.mono (by decide)) b_eo (passN rfl rfl) (pa_cons (pe_ix ix_seq' (pv 1) (pe_un un_neg pe_int) (fun _ _ => rfl)) pa_nil)) pe_int))), ?_⟩
  refine ⟨_, rfl, !(nvs ls).isEmpty, .inl ⟨_, SqL.of fl.hb, rfl⟩, ?_⟩
  cases ls with
  | nil => exact iteF (k H (Same.refl _))
  | cons p0 ps =>
    refine iteT ?_
    generalize hls : p0 :: ps = ls at fl k
    have ne : ls ≠ [] := by rw [← hls]; exact fun z => by cases z
    have l0 : 0 < ls.length := List.length_pos_iff.mpr ne
    have il : ls.length - 1 < ls.length := by omega
    have bl := fl.lb _ (List.getElem_mem il)
    obtain ⟨pa, ca, xs0, ys0, rfl, pX, _, _, hps⟩ := fl.pF.ex
    have yl := paired_len hps
    obtain ⟨dx, fs, hx, hM⟩ := pX.px
    have yn : ys0.length = (rkP pl).length := by rw [rkP_len]; exact yl
    have nn : nvs ls ≠ [] := fun z => by
      have := congrArg List.length z
      rw [nvs_len] at this
      have : ls.length = 0 := this
      omega
    have e0 : atI (nvs ls) (-1) = some (.int ((ls[ls.length - 1] : Nat) : Int)) := by
      rw [at_last nn, nvs_len, nvs_get il]
    refine ⟨_, rfl, pa, dx, fs, rfl, hx, hM, _, rfl, _, rfl, b, _, _, _, rfl, rfl, .inl fl.hb, e0, ?_⟩
    refine ⟨pa, ca, sl, ql, el, pl, xs0, ys0, _, "int", rfl, pX, yl, ⟨.int _, by decide, fun _ _ _ e => by cases e⟩, fun i' e e1 e2 => ?_, fun z => ?_⟩
    · have e3 : e = lastE (rkP pl) ls := by
        have : i' = ls[ls.length - 1] := by have := V.int.inj e1; omega
        subst this
        rw [pieceE_rnk] at e2
        unfold lastE
        rw [if_neg ne, List.getD_eq_getElem?_getD, List.getElem?_eq_getElem il]
        show e = gE (rnk pl.sts (allP pl.w 0 pl.sts)) ls[ls.length - 1]
        unfold gE
        rw [List.getD_eq_getElem?_getD, e2]
        rfl
      rw [e3]
      exact k H (Same.refl _)
    · rw [yn, idx_natP bl] at z
      cases z
end
end Af

set_option Elab.async false
set_option linter.all false
set_option maxRecDepth 100000
namespace Af
/-! the search from behind: masks -/
def dif (a b : Nat) : Nat := Nat.bitwise (fun x y => x && !y) a b
theorem dif_bit (a b j : Nat) : (dif a b).testBit j = (a.testBit j && !b.testBit j) := Nat.testBit_bitwise (by rfl) a b j
theorem and_zero {a b : Nat} : a &&& b = 0 ↔ ∀ j, a.testBit j = true → b.testBit j = true → False := by
  constructor
  · intro h j h1 h2
    have : (a &&& b).testBit j = true := by rw [Nat.testBit_and, h1, h2]; rfl
    rw [h, Nat.zero_testBit] at this
    cases this
  · intro h
    refine Nat.eq_of_testBit_eq fun j => ?_
    rw [Nat.testBit_and, Nat.zero_testBit]
    cases h1 : a.testBit j with
    | false => rfl
    | true =>
      cases h2 : b.testBit j with
      | false => rfl
      | true => exact (h j h1 h2).elim
theorem and_some {a b : Nat} (h : a &&& b ≠ 0) : ∃ j, a.testBit j = true ∧ b.testBit j = true := by
  by_cases c : ∃ j, a.testBit j = true ∧ b.testBit j = true
  · exact c
  · exact absurd (and_zero.mpr fun j h1 h2 => c ⟨j, h1, h2⟩) h
section
variable (sp to la : Nat → Nat)
def canP (wt un p : Nat) : Bool := decide (sp p &&& un = 0) && decide (la p &&& wt = 0)
/-- one walk over the pieces that are left -/
def passF : List Nat → List Nat → Nat → Nat → List Nat × Nat × Nat
  | [], pl, wt, un => (pl, wt, un)
  | p :: r, pl, wt, un => if canP sp la wt un p = true then passF r (pl ++ [p]) (dif wt (2 ^ p)) (dif un (to p)) else passF r pl wt un
/-- walks, until one places none -/
def placeF : Nat → List Nat → List Nat → Nat → Nat → List Nat × List Nat × Nat
  | 0, left, pl, _, un => (pl, left, un)
  | k + 1, left, pl, wt, un =>
    if (passF sp to la left pl wt un).1.length = pl.length then ((passF sp to la left pl wt un).1, left.filter fun p => (passF sp to la left pl wt un).2.1.testBit p, (passF sp to la left pl wt un).2.2)
    else placeF k (left.filter fun p => (passF sp to la left pl wt un).2.1.testBit p) (passF sp to la left pl wt un).1 (passF sp to la left pl wt un).2.1 (passF sp to la left pl wt un).2.2
/-- what holds while pieces of L are placed -/
structure Plc (L : List Nat) (U : Nat) (pl : List Nat) (wt un : Nat) : Prop where
  nd : pl.Nodup
  sub : ∀ p ∈ pl, p ∈ L
  wt : ∀ j, wt.testBit j = true ↔ j ∈ L ∧ j ∉ pl
  un : ∀ j, un.testBit j = true ↔ U.testBit j = true ∧ ∀ p ∈ pl, (to p).testBit j = false
  sq : ∀ A p B, pl = A ++ p :: B → (∀ j, (sp p).testBit j = true → U.testBit j = true → ∃ a ∈ A, (to a).testBit j = true) ∧ ∀ q ∈ L, q ∉ A → (la p).testBit q = false
variable {sp to la}
theorem Plc.start {L : List Nat} {U wt : Nat} (h : ∀ j, wt.testBit j = true ↔ j ∈ L) : Plc sp to la L U [] wt U := by
  refine ⟨List.Pairwise.nil, fun _ h => (by cases h), fun j => ?_, fun j => ?_, fun A p B e => (by simp at e)⟩
  · rw [h]; simp
  · simp
theorem Plc.add {L : List Nat} {U wt un p : Nat} {pl : List Nat} (h : Plc sp to la L U pl wt un) (hp : p ∈ L) (hn : p ∉ pl) (c : canP sp la wt un p = true) : Plc sp to la L U (pl ++ [p]) (dif wt (2 ^ p)) (dif un (to p)) := by
  unfold canP at c
  rw [Bool.and_eq_true, decide_eq_true_iff, decide_eq_true_iff] at c
  have c1 := and_zero.mp c.1
  have c2 := and_zero.mp c.2
  refine ⟨?_, fun q hq => ?_, fun j => ?_, fun j => ?_, fun A q B e => ?_⟩
  · refine List.pairwise_append.mpr ⟨h.nd, by simp, fun a ha b hb => ?_⟩
    rw [List.mem_singleton.mp hb]
    exact fun z => hn (z ▸ ha)
  · rcases List.mem_append.mp hq with hq | hq
    · exact h.sub q hq
    · rw [List.mem_singleton.mp hq]; exact hp
  · rw [dif_bit, Bool.and_eq_true, h.wt, Nat.testBit_two_pow]
    simp only [Bool.not_eq_true', decide_eq_false_iff_not, List.mem_append, List.mem_singleton, not_or]
    constructor
    · rintro ⟨⟨a, b⟩, c⟩
      exact ⟨a, b, fun z => c z.symm⟩
    · rintro ⟨a, b, c⟩
      exact ⟨⟨a, b⟩, fun z => c z.symm⟩
  · rw [dif_bit, Bool.and_eq_true, h.un, Bool.not_eq_true']
    constructor
    · rintro ⟨⟨a, b⟩, c⟩
      refine ⟨a, fun q hq => ?_⟩
      rcases List.mem_append.mp hq with hq | hq
      · exact b q hq
      · rw [List.mem_singleton.mp hq]; exact c
    · rintro ⟨a, b⟩
      exact ⟨⟨a, fun q hq => b q (List.mem_append.mpr (.inl hq))⟩, b p (by simp)⟩
  · rcases List.append_eq_append_iff.mp e with ⟨as, e1, e2⟩ | ⟨bs, e1, e2⟩
    · cases as with
      | nil =>
        have e3 : [p] = q :: B := e2
        cases e3
        have e4 : A = pl := by rw [e1, List.append_nil]
        subst e4
        refine ⟨fun j h1 h2 => ?_, fun q hq hn => ?_⟩
        · by_cases z : ∃ a ∈ A, (to a).testBit j = true
          · exact z
          · refine (c1 j h1 ((h.un j).mpr ⟨h2, fun a ha => ?_⟩)).elim
            cases y : (to a).testBit j with
            | false => rfl
            | true => exact (z ⟨a, ha, y⟩).elim
        · cases y : (la p).testBit q with
          | false => rfl
          | true => exact (c2 q y ((h.wt q).mpr ⟨hq, hn⟩)).elim
      | cons x as =>
        have := congrArg List.length e2
        simp at this
    · cases bs with
      | nil =>
        have e3 : q :: B = [p] := e2
        cases e3
        have e4 : pl = A := by rw [e1, List.append_nil]
        subst e4
        refine ⟨fun j h1 h2 => ?_, fun q hq hn => ?_⟩
        · by_cases z : ∃ a ∈ pl, (to a).testBit j = true
          · exact z
          · refine (c1 j h1 ((h.un j).mpr ⟨h2, fun a ha => ?_⟩)).elim
            cases y : (to a).testBit j with
            | false => rfl
            | true => exact (z ⟨a, ha, y⟩).elim
        · cases y : (la p).testBit q with
          | false => rfl
          | true => exact (c2 q y ((h.wt q).mpr ⟨hq, hn⟩)).elim
      | cons x bs =>
        have e3 : q :: B = x :: (bs ++ [p]) := e2
        cases e3
        exact h.sq A q bs e1
theorem pass_ok {L : List Nat} {U : Nat} : ∀ (r pl : List Nat) (wt un : Nat), Plc sp to la L U pl wt un → r.Nodup → (∀ p ∈ r, p ∈ L ∧ p ∉ pl) →
    Plc sp to la L U (passF sp to la r pl wt un).1 (passF sp to la r pl wt un).2.1 (passF sp to la r pl wt un).2.2
  | [], pl, wt, un, h, _, _ => h
  | p :: r, pl, wt, un, h, nd, hr => by
    obtain ⟨hp, hn⟩ := hr p List.mem_cons_self
    have nd' := List.pairwise_cons.mp nd
    unfold passF
    by_cases c : canP sp la wt un p = true
    · rw [if_pos c]
      refine pass_ok r _ _ _ (h.add hp hn c) nd'.2 fun q hq => ?_
      obtain ⟨q1, q2⟩ := hr q (List.mem_cons_of_mem _ hq)
      refine ⟨q1, fun m => ?_⟩
      rcases List.mem_append.mp m with m | m
      · exact q2 m
      · exact nd'.1 q hq (List.mem_singleton.mp m).symm
    · rw [if_neg c]
      exact pass_ok r _ _ _ h nd'.2 fun q hq => hr q (List.mem_cons_of_mem _ hq)
theorem pass_grow : ∀ (r pl : List Nat) (wt un : Nat), pl.length ≤ (passF sp to la r pl wt un).1.length ∧ ((passF sp to la r pl wt un).1.length = pl.length → passF sp to la r pl wt un = (pl, wt, un) ∧ ∀ p ∈ r, canP sp la wt un p = false)
  | [], pl, wt, un => ⟨Nat.le_refl _, fun _ => ⟨rfl, fun _ h => by cases h⟩⟩
  | p :: r, pl, wt, un => by
    unfold passF
    by_cases c : canP sp la wt un p = true
    · rw [if_pos c]
      have ih := (pass_grow r (pl ++ [p]) (dif wt (2 ^ p)) (dif un (to p))).1
      rw [List.length_append] at ih
      have ih : pl.length + 1 ≤ _ := ih
      exact ⟨by omega, fun z => by omega⟩
    · rw [if_neg c]
      obtain ⟨i1, i2⟩ := pass_grow r pl wt un
      refine ⟨i1, fun z => ⟨(i2 z).1, fun q hq => ?_⟩⟩
      rcases List.mem_cons.mp hq with rfl | hq
      · simpa using c
      · exact (i2 z).2 q hq
theorem nodup_le : ∀ {a b : List Nat}, a.Nodup → (∀ x ∈ a, x ∈ b) → a.length ≤ b.length
  | [], _, _, _ => Nat.zero_le _
  | x :: a, b, nd, h => by
    have nd' := List.pairwise_cons.mp nd
    have hx := h x List.mem_cons_self
    have ih := nodup_le (b := b.erase x) nd'.2 fun y hy => (List.mem_erase_of_ne (Ne.symm (nd'.1 y hy))).mpr (h y (List.mem_cons_of_mem _ hy))
    rw [List.length_erase_of_mem hx] at ih
    have := List.length_pos_of_mem hx
    rw [List.length_cons]
    omega
/-- what is placed, what is left -/
structure Placed (sp to la : Nat → Nat) (L : List Nat) (U : Nat) (s : List Nat × List Nat × Nat) : Prop where
  ok : ∃ wt, Plc sp to la L U s.1 wt s.2.2
  lf : ∀ j, j ∈ s.2.1 ↔ j ∈ L ∧ j ∉ s.1
  mx : ∀ p ∈ s.2.1, (∃ j, (sp p).testBit j = true ∧ s.2.2.testBit j = true) ∨ ∃ q ∈ s.2.1, (la p).testBit q = true
theorem place_ok {L : List Nat} {U : Nat} (nd : L.Nodup) : ∀ (k : Nat) (left pl : List Nat) (wt un : Nat), Plc sp to la L U pl wt un → left.Nodup → (∀ j, j ∈ left ↔ j ∈ L ∧ j ∉ pl) → L.length + 1 ≤ k + pl.length → pl.length ≤ L.length →
    Placed sp to la L U (placeF sp to la k left pl wt un)
  | 0, left, pl, wt, un, h, ln, hl, hk, hm => by omega
  | k + 1, left, pl, wt, un, h, ln, hl, hk, hm => by
    have h' := pass_ok left pl wt un h ln fun p hp => (hl p).mp hp
    obtain ⟨g1, g2⟩ := pass_grow (sp := sp) (to := to) (la := la) left pl wt un
    have lf : ∀ j, j ∈ left.filter (fun p => (passF sp to la left pl wt un).2.1.testBit p) ↔ j ∈ L ∧ j ∉ (passF sp to la left pl wt un).1 := fun j => by
      rw [List.mem_filter, h'.wt]
      constructor
      · exact fun z => z.2
      · intro z
        refine ⟨(hl j).mpr ⟨z.1, fun m => z.2 ?_⟩, z⟩
        -- what was placed stays placed
        exact pass_keep left pl wt un j m
    unfold placeF
    by_cases c : (passF sp to la left pl wt un).1.length = pl.length
    · rw [if_pos c]
      obtain ⟨e, no⟩ := g2 c
      refine ⟨⟨_, h'⟩, lf, fun p hp => ?_⟩
      have hp' := (List.mem_filter.mp hp).1
      have := no p hp'
      unfold canP at this
      rw [Bool.and_eq_false_iff, decide_eq_false_iff_not, decide_eq_false_iff_not] at this
      rcases this with z | z
      · obtain ⟨j, j1, j2⟩ := and_some z
        refine .inl ⟨j, j1, ?_⟩
        show (passF sp to la left pl wt un).2.2.testBit j = true
        rw [e]; exact j2
      · obtain ⟨q, q1, q2⟩ := and_some z
        refine .inr ⟨q, ?_, q1⟩
        show q ∈ left.filter _
        rw [lf, e]
        exact (h.wt q).mp q2
    · rw [if_neg c]
      have bound : (passF sp to la left pl wt un).1.length ≤ L.length := nodup_le h'.nd h'.sub
      exact place_ok nd k _ _ _ _ h' (ln.filter _) lf (by omega) bound
where
  pass_keep : ∀ (r pl : List Nat) (wt un : Nat) (j : Nat), j ∈ pl → j ∈ (passF sp to la r pl wt un).1
    | [], pl, wt, un, j, h => h
    | p :: r, pl, wt, un, j, h => by
      unfold passF
      split
      · exact pass_keep r _ _ _ j (List.mem_append.mpr (.inl h))
      · exact pass_keep r _ _ _ j h
end
end Af

set_option Elab.async false
set_option linter.all false
set_option maxRecDepth 100000
namespace Af
/-! the search from behind: stages -/
def unA (to : Nat → Nat) (U : Nat) (l : List Nat) : Nat := l.foldl (fun u p => dif u (to p)) U
theorem unA_bit (to : Nat → Nat) : ∀ (l : List Nat) (U j : Nat), (unA to U l).testBit j = true ↔ U.testBit j = true ∧ ∀ p ∈ l, (to p).testBit j = false
  | [], U, j => by unfold unA; simp
  | p :: l, U, j => by
    show (unA to (dif U (to p)) l).testBit j = true ↔ _
    rw [unA_bit to l, dif_bit, Bool.and_eq_true, Bool.not_eq_true']
    constructor
    · rintro ⟨⟨a, b⟩, c⟩
      refine ⟨a, fun q hq => ?_⟩
      rcases List.mem_cons.mp hq with rfl | hq
      · exact b
      · exact c q hq
    · rintro ⟨a, b⟩
      exact ⟨⟨a, b p List.mem_cons_self⟩, fun q hq => b q (List.mem_cons_of_mem _ hq)⟩
/-- from the last piece on, each shows only worths that may be, and so does what lay there first -/
def okR (sp to : Nat → Nat) (first : Nat) : Nat → List Nat → Prop
  | U, [] => first &&& U = 0
  | U, p :: l => sp p &&& U = 0 ∧ okR sp to first (dif U (to p)) l
def okS (sp to : Nat → Nat) (U : Nat) (l : List Nat) : Prop := ∀ A p B, l = A ++ p :: B → sp p &&& unA to U A = 0
theorem okR_app {sp to : Nat → Nat} {first : Nat} : ∀ (a b : List Nat) (U : Nat), okR sp to first U (a ++ b) ↔ okS sp to U a ∧ okR sp to first (unA to U a) b
  | [], b, U => by
    constructor
    · intro h
      exact ⟨fun A p B e => by simp at e, h⟩
    · exact fun h => h.2
  | p :: a, b, U => by
    show (sp p &&& U = 0 ∧ okR sp to first (dif U (to p)) (a ++ b)) ↔ _
    rw [okR_app a b]
    constructor
    · rintro ⟨h1, h2, h3⟩
      refine ⟨fun A q B e => ?_, h3⟩
      cases A with
      | nil =>
        cases e
        exact h1
      | cons x A =>
        cases e
        exact h2 A q B rfl
    · rintro ⟨h1, h2⟩
      exact ⟨h1 [] p a rfl, fun A q B e => h1 (p :: A) q B (by rw [e]; rfl), h2⟩
theorem okS_plc {sp to la : Nat → Nat} {L pl : List Nat} {U wt un : Nat} (h : Plc sp to la L U pl wt un) : okS sp to U pl := fun A p B e => by
  refine and_zero.mpr fun j h1 h2 => ?_
  obtain ⟨u1, u2⟩ := (unA_bit to A U j).mp h2
  obtain ⟨a, ha, t⟩ := (h.sq A p B e).1 j h1 u1
  rw [u2 a ha] at t
  cases t
theorem un_plc {sp to la : Nat → Nat} {L pl : List Nat} {U wt un : Nat} (h : Plc sp to la L U pl wt un) : un = unA to U pl := by
  refine Nat.eq_of_testBit_eq fun j => ?_
  rw [Bool.eq_iff_iff, h.un, unA_bit]
section
variable (sp to la : Nat → Nat) (mem : Nat → List Nat) (wm : Nat → Nat) (sure : Nat → Bool)
def stg (now un : Nat) : List Nat × List Nat × Nat := placeF sp to la ((mem now).length + 1) (mem now) [] (wm now) un
def goF : List Nat → List Nat → Nat → Option (List Nat × Nat)
  | [], ord, un => some (ord, un)
  | now :: r, ord, un => if (stg sp to la mem wm now un).2.1.any sure = true then none else goF r (ord ++ (stg sp to la mem wm now un).1) (stg sp to la mem wm now un).2.2
end
def downs : Nat → List Nat
  | 0 => [0]
  | k + 1 => (k + 1) :: downs k
/-- pieces that come in the order of their epochs, all of the lower ones first -/
structure FallS (es : List Int) (f : List Nat) : Prop where
  nd : f.Nodup
  lt : ∀ p ∈ f, p < es.length
  lo : ∀ X p Y, f = X ++ p :: Y → ∀ j < es.length, gE es j < gE es p → j ∈ X
def Bef (f : List Nat) (a b : Nat) : Prop := ∃ X Y Z, f = X ++ a :: (Y ++ b :: Z)
structure FitS (T G : List Nat) (D : List (Nat × Nat)) (f : List Nat) : Prop where
  t : ∀ x ∈ T, x ∈ f
  g : ∀ x ∈ G, x ∉ f
  d : ∀ d ∈ D, Bef f d.1 d.2
structure MayS (G : List Nat) (D : List (Nat × Nat)) (b : List Nat) : Prop where
  g : ∀ x ∈ G, x ∉ b
  d : ∀ d ∈ D, d.2 ∈ b → Bef b d.1 d.2
def Claimed (T : List Nat) (D : List (Nat × Nat)) (c : Nat) : Prop := c ∈ T ∨ ∃ d ∈ D, c = d.1 ∨ c = d.2
structure NoMis (es : List Int) (T G : List Nat) (D : List (Nat × Nat)) (e : Nat) : Prop where
  c : ∀ c, Claimed T D c → gE es c ≤ (e : Int)
  g : ∀ x ∈ G, (e : Int) ≤ gE es x
/-- what a hunt knows -/
structure Hnt (es : List Int) (T G : List Nat) (D : List (Nat × Nat)) (begun : List Nat) (la : Nat → Nat) (mem : Nat → List Nat) (wm : Nat → Nat) : Prop where
  nn : ∀ j, 0 ≤ gE es j
  cl : Cw es T G D
  hla : ∀ p q, p < es.length → q < es.length → (la p).testBit q = wB es D es.length p q
  hmem : ∀ k p, p ∈ mem k ↔ p < es.length ∧ gE es p = (k : Int) ∧ p ∉ G ∧ p ∉ begun
  hnd : ∀ k, (mem k).Nodup
  hwm : ∀ k j, (wm k).testBit j = true ↔ j ∈ mem k
theorem wB_base {es : List Int} {D : List (Nat × Nat)} {i j : Nat} (h : bsB es D i j = true) : ∀ k, wB es D k i j = true
  | 0 => h
  | k + 1 => by
    show (wB es D k i j || _) = true
    rw [wB_base h k]
    rfl
section
variable {es : List Int} {T G : List Nat} {D : List (Nat × Nat)} {begun : List Nat} {sp to la : Nat → Nat} {mem : Nat → List Nat} {wm : Nat → Nat} {sure : Nat → Bool}
theorem stg_ok (H : Hnt es T G D begun la mem wm) (now un : Nat) : Placed sp to la (mem now) un (stg sp to la mem wm now un) :=
  place_ok (H.hnd now) _ _ _ _ _ (Plc.start (H.hwm now)) (H.hnd now) (fun j => by simp) (by simp) (Nat.zero_le _)
/-- what a hunt through the epochs down to the first one gives -/
structure Went (es : List Int) (la : Nat → Nat) (mem : Nat → List Nat) (sure : Nat → Bool) (sp to : Nat → Nat) (k U : Nat) (l : List Nat) (U' : Nat) : Prop where
  nd : l.Nodup
  mm : ∀ p ∈ l, ∃ i, i ≤ k ∧ p ∈ mem i
  dn : l.Pairwise fun a b => gE es b ≤ gE es a
  al : ∀ i, i ≤ k → ∀ p ∈ mem i, p ∈ l ∨ sure p = false
  ok : okS sp to U l
  un : U' = unA to U l
  aft : ∀ A a B, l = A ++ a :: B → ∀ i b, a ∈ mem i → b ∈ mem i → (la a).testBit b = true → b ∈ A
theorem mem_ep (H : Hnt es T G D begun la mem wm) {i p : Nat} (h : p ∈ mem i) : gE es p = (i : Int) := ((H.hmem i p).mp h).2.1
theorem unA_app (to : Nat → Nat) (U : Nat) (a b : List Nat) : unA to U (a ++ b) = unA to (unA to U a) b := by
  unfold unA
  rw [List.foldl_append]
theorem split_app {a b A B : List Nat} {x : Nat} (e : a ++ b = A ++ x :: B) : (∃ B', a = A ++ x :: B' ∧ B = B' ++ b) ∨ ∃ A', A = a ++ A' ∧ b = A' ++ x :: B := by
  rcases List.append_eq_append_iff.mp e with ⟨as, e1, e2⟩ | ⟨bs, e1, e2⟩
  · exact .inr ⟨as, e1, e2⟩
  · cases bs with
    | nil => exact .inr ⟨[], by rw [e1, List.append_nil, List.append_nil], e2.symm⟩
    | cons y bs =>
      have e3 : x :: B = y :: (bs ++ b) := e2
      cases e3
      exact .inl ⟨bs, e1, rfl⟩
theorem went_cons (H : Hnt es T G D begun la mem wm) {k U : Nat} {r : List Nat} {U' : Nat} (no : (stg sp to la mem wm (k + 1) U).2.1.any sure = false) (w : Went es la mem sure sp to k (stg sp to la mem wm (k + 1) U).2.2 r U') :
    Went es la mem sure sp to (k + 1) U ((stg sp to la mem wm (k + 1) U).1 ++ r) U' := by
  obtain ⟨⟨wt, pc⟩, lf, mx⟩ := stg_ok (sp := sp) (to := to) H (k + 1) U
  have ap : ∀ p ∈ (stg sp to la mem wm (k + 1) U).1, gE es p = ((k + 1 : Nat) : Int) := fun p hp => mem_ep H (pc.sub p hp)
  have ar : ∀ p ∈ r, gE es p ≤ (k : Int) := fun p hp => by
    obtain ⟨i, hi, hm⟩ := w.mm p hp
    have := mem_ep H hm
    omega
  refine ⟨?_, fun p hp => ?_, ?_, fun i hi p hp => ?_, fun A p B e => ?_, ?_, fun A a B e i b ha hb t => ?_⟩
  · refine List.pairwise_append.mpr ⟨pc.nd, w.nd, fun a ha b hb z => ?_⟩
    have h1 := ap a ha
    have h2 := ar b hb
    rw [z] at h1
    omega
  · rcases List.mem_append.mp hp with hp | hp
    · exact ⟨k + 1, Nat.le_refl _, pc.sub p hp⟩
    · obtain ⟨i, hi, hm⟩ := w.mm p hp
      exact ⟨i, by omega, hm⟩
  · refine List.pairwise_append.mpr ⟨?_, w.dn, fun a ha b hb => ?_⟩
    · refine List.pairwise_iff_getElem.mpr fun x y hx hy _ => ?_
      rw [ap _ (List.getElem_mem hx), ap _ (List.getElem_mem hy)]
      exact Int.le_refl _
    · have h1 := ap a ha
      have h2 := ar b hb
      omega
  · rcases Nat.lt_or_ge k i with z | z
    · have e : i = k + 1 := by omega
      subst e
      by_cases m : p ∈ (stg sp to la mem wm (k + 1) U).1
      · exact .inl (List.mem_append.mpr (.inl m))
      · refine .inr ?_
        have := (List.any_eq_false.mp no) p ((lf p).mpr ⟨hp, m⟩)
        simpa using this
    · rcases w.al i z p hp with h | h
      · exact .inl (List.mem_append.mpr (.inr h))
      · exact .inr h
  · rcases split_app e with ⟨B', e1, _⟩ | ⟨A', e1, e2⟩
    · exact okS_plc pc A p B' e1
    · have := w.ok A' p B e2
      rw [un_plc pc] at this
      rw [e1, unA_app]
      exact this
  · rw [w.un, un_plc pc, unA_app]
  · rcases split_app e with ⟨B', e1, _⟩ | ⟨A', e1, e2⟩
    · have ai : a ∈ mem (k + 1) := pc.sub a (by rw [e1]; simp)
      have h1 := mem_ep H ha
      have h2 := mem_ep H ai
      have e : i = k + 1 := by omega
      subst e
      by_cases m : b ∈ A
      · exact m
      · have := (pc.sq A a B' e1).2 b hb m
        rw [t] at this
        cases this
    · rw [e1]
      exact List.mem_append.mpr (.inr (w.aft A' a B e2 i b ha hb t))
theorem go_sound (H : Hnt es T G D begun la mem wm) : ∀ (k : Nat) (ord : List Nat) (U : Nat) (ord' : List Nat) (U' : Nat), goF sp to la mem wm sure (downs k) ord U = some (ord', U') → ∃ l, ord' = ord ++ l ∧ Went es la mem sure sp to k U l U'
  | 0, ord, U, ord', U', h => by
    have h : (if (stg sp to la mem wm 0 U).2.1.any sure = true then none else some (ord ++ (stg sp to la mem wm 0 U).1, (stg sp to la mem wm 0 U).2.2)) = some (ord', U') := h
    cases c : (stg sp to la mem wm 0 U).2.1.any sure with
    | true => rw [c] at h; cases h
    | false =>
      rw [c] at h
      cases h
      obtain ⟨⟨wt, pc⟩, lf, mx⟩ := stg_ok (sp := sp) (to := to) H 0 U
      refine ⟨_, rfl, pc.nd, fun p hp => ⟨0, Nat.le_refl _, pc.sub p hp⟩, ?_, fun i hi p hp => ?_, okS_plc pc, un_plc pc, fun A a B e i b ha hb t => ?_⟩
      · refine List.pairwise_iff_getElem.mpr fun x y hx hy _ => ?_
        rw [mem_ep H (pc.sub _ (List.getElem_mem hx)), mem_ep H (pc.sub _ (List.getElem_mem hy))]
        exact Int.le_refl _
      · have e : i = 0 := by omega
        subst e
        by_cases m : p ∈ (stg sp to la mem wm 0 U).1
        · exact .inl m
        · refine .inr ?_
          have := (List.any_eq_false.mp c) p ((lf p).mpr ⟨hp, m⟩)
          simpa using this
      · have ai : a ∈ mem 0 := pc.sub a (by rw [e]; simp)
        have h1 := mem_ep H ha
        have h2 := mem_ep H ai
        have e' : i = 0 := by omega
        subst e'
        by_cases m : b ∈ A
        · exact m
        · have := (pc.sq A a B e).2 b hb m
          rw [t] at this
          cases this
  | k + 1, ord, U, ord', U', h => by
    have h : (if (stg sp to la mem wm (k + 1) U).2.1.any sure = true then none else goF sp to la mem wm sure (downs k) (ord ++ (stg sp to la mem wm (k + 1) U).1) (stg sp to la mem wm (k + 1) U).2.2) = some (ord', U') := h
    cases c : (stg sp to la mem wm (k + 1) U).2.1.any sure with
    | true => rw [c] at h; cases h
    | false =>
      rw [c] at h
      obtain ⟨l, e, w⟩ := go_sound H k _ _ _ _ h
      exact ⟨_, by rw [e, List.append_assoc], went_cons H c w⟩
end
end Af

set_option Elab.async false
set_option linter.all false
set_option maxRecDepth 100000
namespace Af
/-! the search from behind: what it gives is a fall that fits; a fall that fits is found -/
theorem bef_app_l {a x : List Nat} {p q : Nat} (h : Bef a p q) : Bef (a ++ x) p q := by
  obtain ⟨X, Y, Z, e⟩ := h
  exact ⟨X, Y, Z ++ x, by rw [e]; simp⟩
theorem bef_split {f X Y : List Nat} {p q : Nat} (e : f = X ++ p :: Y) (h : q ∈ Y) : Bef f p q := by
  obtain ⟨A, B, rfl⟩ := List.append_of_mem h
  exact ⟨X, A, B, e⟩
section
variable {es : List Int} {T G : List Nat} {D : List (Nat × Nat)} {begun : List Nat} {sp to la : Nat → Nat} {mem : Nat → List Nat} {wm : Nat → Nat} {sure : Nat → Bool}
/-- along a fall the epochs don't fall -/
theorem FallS.up {f : List Nat} (h : FallS es f) : f.Pairwise fun a b => gE es a ≤ gE es b := by
  refine List.pairwise_iff_getElem.mpr fun i j hi hj ij => ?_
  by_cases c : gE es f[i] ≤ gE es f[j]
  · exact c
  · have e : f = f.take i ++ f[i] :: f.drop (i + 1) := by rw [← List.drop_eq_getElem_cons hi, List.take_append_drop]
    have m := h.lo _ _ _ e f[j] (h.lt _ (List.getElem_mem hj)) (by omega)
    obtain ⟨k, hk, ek⟩ := List.mem_iff_getElem.mp m
    rw [List.length_take] at hk
    rw [List.getElem_take] at ek
    exact (List.pairwise_iff_getElem.mp h.nd k j (by omega) hj (by omega) ek).elim
theorem la_pair (H : Hnt es T G D begun la mem wm) {d : Nat × Nat} (hd : d ∈ D) : (la d.1).testBit d.2 = true := by
  obtain ⟨h1, h2, _⟩ := H.cl.db d hd
  rw [H.hla _ _ h1 h2]
  refine wB_base ?_ _
  unfold bsB
  rw [Bool.or_eq_true]
  exact .inr (List.contains_iff_mem.mpr hd)
theorem pair_up (H : Hnt es T G D begun la mem wm) {d : Nat × Nat} (hd : d ∈ D) : gE es d.1 ≤ gE es d.2 := by
  by_cases c : gE es d.1 ≤ gE es d.2
  · exact c
  · obtain ⟨h1, h2, _⟩ := H.cl.db d hd
    obtain ⟨key, r⟩ := H.cl.rise
    have a := r d.1 d.2 (by unfold bsB; rw [Bool.or_eq_true]; exact .inr (List.contains_iff_mem.mpr hd)) h1 h2
    have b := r d.2 d.1 (by unfold bsB; rw [Bool.or_eq_true]; exact .inl (decide_eq_true (by omega))) h2 h1
    omega
/-- what is found is a fall that fits -/
theorem hunt_sound (H : Hnt es T G D begun la mem wm) {e U U' : Nat} {ord : List Nat} (hs : ∀ p, sure p = true ↔ gE es p < (e : Int) ∨ Claimed T D p) (fb : FallS es begun) (mb : MayS G D begun) (nm : NoMis es T G D e)
    (eb : ∀ p ∈ begun, gE es p ≤ (e : Int)) (h : goF sp to la mem wm sure (downs e) [] U = some (ord, U')) :
    FallS es (begun ++ ord.reverse) ∧ FitS T G D (begun ++ ord.reverse) ∧ okS sp to U ord ∧ U' = unA to U ord ∧ (∀ p ∈ begun ++ ord.reverse, gE es p ≤ (e : Int)) := by
  obtain ⟨l, e0, w⟩ := go_sound H e [] U ord U' h
  have e0 : ord = l := by rw [e0, List.nil_append]
  subst e0
  have ol : ∀ p ∈ ord, p < es.length ∧ gE es p ≤ (e : Int) ∧ p ∉ G ∧ p ∉ begun := fun p hp => by
    obtain ⟨i, hi, hm⟩ := w.mm p hp
    obtain ⟨h1, h2, h3, h4⟩ := (H.hmem i p).mp hm
    exact ⟨h1, by omega, h3, h4⟩
  have nd : (begun ++ ord.reverse).Nodup := List.pairwise_append.mpr ⟨fb.nd, List.pairwise_reverse.mpr (w.nd.imp fun h => Ne.symm h), fun a ha b hb z => (ol b (List.mem_reverse.mp hb)).2.2.2 (z ▸ ha)⟩
  have bl : ∀ a ∈ begun, ∀ b, b < es.length → b ∉ begun → gE es a ≤ gE es b := fun a ha b hb hn => by
    by_cases c : gE es a ≤ gE es b
    · exact c
    · obtain ⟨X, Y, ex⟩ := List.append_of_mem ha
      exact absurd (by rw [ex]; exact List.mem_append.mpr (.inl (fb.lo X a Y ex b hb (by omega)))) hn
  have up : (begun ++ ord.reverse).Pairwise fun a b => gE es a ≤ gE es b := List.pairwise_append.mpr ⟨fb.up, List.pairwise_reverse.mpr w.dn, fun a ha b hb => by
    obtain ⟨o1, _, _, o4⟩ := ol b (List.mem_reverse.mp hb)
    exact bl a ha b o1 o4⟩
  have lt : ∀ p ∈ begun ++ ord.reverse, p < es.length := fun p hp => by
    rcases List.mem_append.mp hp with hp | hp
    · exact fb.lt p hp
    · exact (ol p (List.mem_reverse.mp hp)).1
  have le : ∀ p ∈ begun ++ ord.reverse, gE es p ≤ (e : Int) := fun p hp => by
    rcases List.mem_append.mp hp with hp | hp
    · exact eb p hp
    · exact (ol p (List.mem_reverse.mp hp)).2.1
  -- whatever is sure is there
  have inn : ∀ p, p < es.length → gE es p ≤ (e : Int) → p ∉ G → sure p = true → p ∈ begun ++ ord.reverse := fun p hp he hg s => by
    by_cases m : p ∈ begun
    · exact List.mem_append.mpr (.inl m)
    · obtain ⟨i, ei⟩ := Int.eq_ofNat_of_zero_le (H.nn p)
      rcases w.al i (by omega) p ((H.hmem i p).mpr ⟨hp, ei, hg, m⟩) with z | z
      · exact List.mem_append.mpr (.inr (List.mem_reverse.mpr z))
      · rw [z] at s; cases s
  have inC : ∀ c, Claimed T D c → c ∈ begun ++ ord.reverse := fun c hc => by
    have l1 : c < es.length ∧ c ∉ G := by
      rcases hc with h | ⟨d, hd, h⟩
      · exact ⟨H.cl.tb c h, fun g => H.cl.gt c g h⟩
      · obtain ⟨d1, d2, _⟩ := H.cl.db d hd
        rcases h with rfl | rfl
        · exact ⟨d1, fun g => (H.cl.gd _ g d hd).1 rfl⟩
        · exact ⟨d2, fun g => (H.cl.gd _ g d hd).2 rfl⟩
    exact inn c l1.1 (nm.c c hc) l1.2 ((hs c).mpr (.inr hc))
  refine ⟨⟨nd, lt, fun X p Y ex j hj lj => ?_⟩, ⟨fun x hx => inC x (.inl hx), fun x hx m => ?_, fun d hd => ?_⟩, w.ok, w.un, le⟩
  · have pe := le p (by rw [ex]; simp)
    have jn : j ∉ G := fun g => by have := nm.g j g; omega
    have m := inn j hj (by omega) jn ((hs j).mpr (.inl (by omega)))
    rw [ex] at m up
    rcases List.mem_append.mp m with m | m
    · exact m
    · rcases List.mem_cons.mp m with rfl | m
      · omega
      · have := (List.pairwise_cons.mp (List.pairwise_append.mp up).2.1).1 j m
        omega
  · rcases List.mem_append.mp m with m | m
    · exact mb.g x hx m
    · exact (ol x (List.mem_reverse.mp m)).2.2.1 hx
  · have m1 := inC d.1 (.inr ⟨d, hd, .inl rfl⟩)
    have m2 := inC d.2 (.inr ⟨d, hd, .inr rfl⟩)
    by_cases b2 : d.2 ∈ begun
    · exact bef_app_l (mb.d d hd b2)
    · have r2 : d.2 ∈ ord.reverse := (List.mem_append.mp m2).resolve_left b2
      by_cases b1 : d.1 ∈ begun
      · obtain ⟨X, Y, ex⟩ := List.append_of_mem b1
        exact bef_split (X := X) (Y := Y ++ ord.reverse) (by rw [ex]; simp) (List.mem_append.mpr (.inr r2))
      · have r1 : d.1 ∈ ord.reverse := (List.mem_append.mp m1).resolve_left b1
        obtain ⟨A, B, ex⟩ := List.append_of_mem (List.mem_reverse.mp r1)
        have inA : d.2 ∈ A := by
          obtain ⟨h1, h2, hne⟩ := H.cl.db d hd
          have pu := pair_up H hd
          rcases Int.lt_or_le (gE es d.1) (gE es d.2) with z | z
          · have m := List.mem_reverse.mp r2
            have dn := w.dn
            rw [ex] at m dn
            rcases List.mem_append.mp m with m | m
            · exact m
            · rcases List.mem_cons.mp m with m | m
              · exact absurd m.symm hne
              · have := (List.pairwise_cons.mp (List.pairwise_append.mp dn).2.1).1 d.2 m
                omega
          · obtain ⟨i, hi, hm⟩ := w.mm d.1 (List.mem_reverse.mp r1)
            obtain ⟨i', hi', hm'⟩ := w.mm d.2 (List.mem_reverse.mp r2)
            have q1 := mem_ep H hm
            have q2 := mem_ep H hm'
            have : i' = i := by omega
            subst this
            exact w.aft A d.1 B ex i' d.2 hm hm' (la_pair H hd)
        exact bef_split (X := begun ++ B.reverse) (Y := A.reverse) (by rw [ex]; simp) (List.mem_reverse.mpr inA)
theorem idx_skip {a b : Nat} {l : List Nat} (h : a ≠ b) : (a :: l).idxOf b = l.idxOf b + 1 := by
  rw [List.idxOf_cons, show (a == b) = false from by simpa using h]
  rfl
/-- the order of a fall, as a key that rises -/
theorem fall_rise {f : List Nat} (h : FallS es f) (ft : FitS T G D f) (nn : ∀ j, 0 ≤ gE es j) : Rise es D fun i => gE es i * ((f.length : Int) + 2) + (if i ∈ f then 1 + (f.idxOf i : Int) else 0) := by
  have bd : ∀ i, (if i ∈ f then 1 + (f.idxOf i : Int) else 0) < (f.length : Int) + 2 ∧ 0 ≤ (if i ∈ f then 1 + (f.idxOf i : Int) else 0) := fun i => by
    by_cases m : i ∈ f
    · rw [if_pos m]
      have := List.idxOf_lt_length_iff.mpr m
      omega
    · rw [if_neg m]; omega
  have ep : ∀ i j, gE es i < gE es j → gE es i * ((f.length : Int) + 2) + (if i ∈ f then 1 + (f.idxOf i : Int) else 0) < gE es j * ((f.length : Int) + 2) + (if j ∈ f then 1 + (f.idxOf j : Int) else 0) := fun i j c => by
    have b1 := bd i
    have b2 := bd j
    have m : (gE es i + 1) * ((f.length : Int) + 2) ≤ gE es j * ((f.length : Int) + 2) := Int.mul_le_mul_of_nonneg_right (by omega) (by omega)
    rw [Int.add_mul, Int.one_mul] at m
    omega
  intro i j b _ _
  unfold bsB at b
  rw [Bool.or_eq_true, decide_eq_true_iff, List.contains_iff_mem] at b
  show gE es i * _ + _ < gE es j * _ + _
  rcases b with b | b
  · exact ep i j b
  · obtain ⟨X, Y, Z, e⟩ := ft.d (i, j) b
    have e : f = X ++ i :: (Y ++ j :: Z) := e
    have nd := h.nd
    have up := h.up
    have mi : i ∈ f := by rw [e]; simp
    have mj : j ∈ f := by rw [e]; simp
    have le : gE es i ≤ gE es j := by
      rw [e] at up
      exact (List.pairwise_cons.mp (List.pairwise_append.mp up).2.1).1 j (by simp)
    rcases Int.lt_or_le (gE es i) (gE es j) with z | z
    · exact ep i j z
    · have z' : gE es i = gE es j := by omega
      have ix : f.idxOf i < f.idxOf j := by
        rw [e] at nd
        have n1 := List.pairwise_append.mp nd
        have iX : i ∉ X := fun m => n1.2.2 i m i (by simp) rfl
        have jX : j ∉ X := fun m => n1.2.2 j m j (by simp) rfl
        have ij : j ≠ i := fun z => (List.pairwise_cons.mp n1.2.1).1 j (by simp) z.symm
        rw [e, List.idxOf_append, List.idxOf_append, if_neg iX, if_neg jX, List.idxOf_cons_self, idx_skip (Ne.symm ij)]
        omega
      rw [if_pos mi, if_pos mj, z']
      omega
end
end Af

set_option Elab.async false
set_option linter.all false
set_option maxRecDepth 100000
namespace Af
theorem okR_mono {sp to : Nat → Nat} {first : Nat} : ∀ (l : List Nat) {U V : Nat}, (∀ j, V.testBit j = true → U.testBit j = true) → okR sp to first U l → okR sp to first V l
  | [], U, V, h, k => and_zero.mpr fun j h1 h2 => and_zero.mp k j h1 (h j h2)
  | p :: l, U, V, h, k => by
    refine ⟨and_zero.mpr fun j h1 h2 => and_zero.mp k.1 j h1 (h j h2), okR_mono l (fun j hj => ?_) k.2⟩
    rw [dif_bit, Bool.and_eq_true] at hj ⊢
    exact ⟨h j hj.1, hj.2⟩
theorem split_ep {es : List Int} {k : Int} : ∀ (l : List Nat), l.Pairwise (fun a b => gE es b ≤ gE es a) → (∀ p ∈ l, gE es p ≤ k) → ∃ A B, l = A ++ B ∧ (∀ a ∈ A, gE es a = k) ∧ ∀ b ∈ B, gE es b < k
  | [], _, _ => ⟨[], [], rfl, fun _ h => (by cases h), fun _ h => (by cases h)⟩
  | p :: l, pw, le => by
    have pc := List.pairwise_cons.mp pw
    have lp := le p List.mem_cons_self
    rcases Int.lt_or_eq_of_le lp with c | c
    · refine ⟨[], p :: l, rfl, fun _ h => (by cases h), fun b hb => ?_⟩
      rcases List.mem_cons.mp hb with rfl | hb
      · exact c
      · have := pc.1 b hb
        omega
    · obtain ⟨A, B, e, h1, h2⟩ := split_ep l pc.2 fun q hq => le q (List.mem_cons_of_mem _ hq)
      refine ⟨p :: A, B, by rw [e]; rfl, fun a ha => ?_, h2⟩
      rcases List.mem_cons.mp ha with rfl | ha
      · exact c
      · exact h1 a ha
section
variable {es : List Int} {T G : List Nat} {D : List (Nat × Nat)} {begun : List Nat} {sp to la : Nat → Nat} {mem : Nat → List Nat} {wm : Nat → Nat} {sure : Nat → Bool}
/-- all pieces of a fall in an epoch are placed -/
theorem all_placed (H : Hnt es T G D begun la mem wm) {f P A B : List Nat} {k Ug Uf : Nat} (ef : f = begun ++ (P ++ (A ++ B)).reverse) (hf : FallS es f) (ft : FitS T G D f) (pk : ∀ p ∈ P, (k : Int) < gE es p) (ak : ∀ a ∈ A, gE es a = (k : Int))
    (os : okS sp to Uf A) (uu : ∀ j, Ug.testBit j = true → Uf.testBit j = true) : ∀ a ∈ A, a ∈ (stg sp to la mem wm k Ug).1 := by
  obtain ⟨⟨wt, pc⟩, lf, mx⟩ := stg_ok (sp := sp) (to := to) H k Ug
  have inf : ∀ a ∈ A, a ∈ f := fun a ha => by rw [ef]; simp [ha]
  have inm : ∀ a ∈ A, a ∈ mem k := fun a ha => by
    refine (H.hmem k a).mpr ⟨hf.lt a (inf a ha), ak a ha, fun g => ft.g a g (inf a ha), fun m => ?_⟩
    have nd := hf.nd
    rw [ef] at nd
    exact (List.pairwise_append.mp nd).2.2 a m a (by simp [ha]) rfl
  have main : ∀ (A2 A1 : List Nat), A = A1 ++ A2 → (∀ a ∈ A1, a ∈ (stg sp to la mem wm k Ug).1) → ∀ a ∈ A, a ∈ (stg sp to la mem wm k Ug).1 := by
    intro A2
    induction A2 with
    | nil =>
      intro A1 e h a ha
      rw [e, List.append_nil] at ha
      exact h a ha
    | cons p A2 ih =>
      intro A1 e h
      refine ih (A1 ++ [p]) (by rw [e]; simp) fun a ha => ?_
      rcases List.mem_append.mp ha with ha | ha
      · exact h a ha
      rw [List.mem_singleton.mp ha]
      have pA : p ∈ A := by rw [e]; simp
      by_cases m : p ∈ (stg sp to la mem wm k Ug).1
      · exact m
      · have pl := (lf p).mpr ⟨inm p pA, m⟩
        rcases mx p pl with ⟨j, j1, j2⟩ | ⟨q, q1, q2⟩
        · obtain ⟨u1, u2⟩ := (pc.un j).mp j2
          have z := and_zero.mp (os A1 p A2 e) j j1 ((unA_bit to A1 Uf j).mpr ⟨uu j u1, fun a ha => u2 a (h a ha)⟩)
          exact z.elim
        · obtain ⟨qm, qn⟩ := (lf q).mp q1
          obtain ⟨ql, qe, qg, qb⟩ := (H.hmem k q).mp qm
          have pf := inf p pA
          have pe := ak p pA
          rw [H.hla p q (hf.lt p pf) ql] at q2
          have lt := wB_rise (fall_rise hf ft H.nn) es.length (Nat.le_refl _) p q (hf.lt p pf) ql q2
          have lt : gE es p * ((f.length : Int) + 2) + (if p ∈ f then 1 + (f.idxOf p : Int) else 0) < gE es q * ((f.length : Int) + 2) + (if q ∈ f then 1 + (f.idxOf q : Int) else 0) := lt
          rw [pe, qe, if_pos pf] at lt
          by_cases qf : q ∈ f
          · rw [if_pos qf] at lt
            have ix : f.idxOf p < f.idxOf q := by omega
            -- q stands behind p, so it was placed
            have ef2 : f = (begun ++ (B.reverse ++ A2.reverse)) ++ p :: (A1.reverse ++ P.reverse) := by rw [ef, e]; simp
            have qY : q ∈ A1.reverse ++ P.reverse := by
              have qf' := qf
              rw [ef2] at qf'
              rcases List.mem_append.mp qf' with z | z
              · exfalso
                have nd := hf.nd
                rw [ef2] at nd
                have pX : p ∉ begun ++ (B.reverse ++ A2.reverse) := fun m => (List.pairwise_append.mp nd).2.2 p m p (by simp) rfl
                have i1 : f.idxOf q < (begun ++ (B.reverse ++ A2.reverse)).length := by
                  rw [ef2, List.idxOf_append, if_pos z]
                  exact List.idxOf_lt_length_iff.mpr z
                have i2 : f.idxOf p = (begun ++ (B.reverse ++ A2.reverse)).length := by
                  rw [ef2, List.idxOf_append, if_neg pX, List.idxOf_cons_self]
                  omega
                omega
              · rcases List.mem_cons.mp z with rfl | z
                · omega
                · exact z
            rcases List.mem_append.mp qY with z | z
            · exact absurd (h q (List.mem_reverse.mp z)) qn
            · have := pk q (List.mem_reverse.mp z)
              omega
          · rw [if_neg qf] at lt
            omega
  exact main A [] rfl fun _ h => (by cases h)
theorem go_step (H : Hnt es T G D begun la mem wm) {e : Nat} (hs : ∀ p, sure p = true ↔ gE es p < (e : Int) ∨ Claimed T D p) {f P A B : List Nat} {k Ug : Nat} (ef : f = begun ++ (P ++ (A ++ B)).reverse) (hf : FallS es f) (ft : FitS T G D f)
    (lo : ∀ j < es.length, gE es j < (e : Int) → j ∈ f) (pk : ∀ p ∈ P, (k : Int) < gE es p) (bk : ∀ b ∈ B, gE es b < (k : Int)) (pl : ∀ a ∈ A, a ∈ (stg sp to la mem wm k Ug).1) : (stg sp to la mem wm k Ug).2.1.any sure = false := by
  obtain ⟨_, lf, _⟩ := stg_ok (sp := sp) (to := to) H k Ug
  refine List.any_eq_false.mpr fun p hp => ?_
  intro s
  obtain ⟨pm, pn⟩ := (lf p).mp hp
  obtain ⟨h1, h2, h3, h4⟩ := (H.hmem k p).mp pm
  have pf : p ∈ f := by
    rcases (hs p).mp s with z | z
    · exact lo p h1 z
    · rcases z with z | ⟨d, hd, z⟩
      · exact ft.t p z
      · obtain ⟨X, Y, Z, e⟩ := ft.d d hd
        rcases z with rfl | rfl <;> (rw [e]; simp)
  rw [ef] at pf
  rcases List.mem_append.mp pf with z | z
  · exact h4 z
  · rcases List.mem_append.mp (List.mem_reverse.mp z) with z | z
    · have := pk p z
      omega
    · rcases List.mem_append.mp z with z | z
      · exact pn (pl p z)
      · have := bk p z
        omega
theorem stg_un (H : Hnt es T G D begun la mem wm) {A : List Nat} {k Ug Uf : Nat} (uu : ∀ j, Ug.testBit j = true → Uf.testBit j = true) (pl : ∀ a ∈ A, a ∈ (stg sp to la mem wm k Ug).1) : ∀ j, (stg sp to la mem wm k Ug).2.2.testBit j = true → (unA to Uf A).testBit j = true := fun j hj => by
  obtain ⟨⟨wt, pc⟩, _, _⟩ := stg_ok (sp := sp) (to := to) H k Ug
  obtain ⟨u1, u2⟩ := (pc.un j).mp hj
  exact (unA_bit to A Uf j).mpr ⟨uu j u1, fun a ha => u2 a (pl a ha)⟩
theorem go_complete (H : Hnt es T G D begun la mem wm) {e : Nat} (hs : ∀ p, sure p = true ↔ gE es p < (e : Int) ∨ Claimed T D p) {first : Nat} {f : List Nat} (hf : FallS es f) (ft : FitS T G D f) (lo : ∀ j < es.length, gE es j < (e : Int) → j ∈ f) :
    ∀ (k : Nat) (P l ord : List Nat) (Ug Uf : Nat), f = begun ++ (P ++ l).reverse → (∀ p ∈ P, (k : Int) < gE es p) → (∀ p ∈ l, gE es p ≤ (k : Int)) → okR sp to first Uf l → (∀ j, Ug.testBit j = true → Uf.testBit j = true) →
    ∃ ord' U', goF sp to la mem wm sure (downs k) ord Ug = some (ord', U') ∧ first &&& U' = 0 := by
  intro k
  induction k with
  | zero =>
    intro P l ord Ug Uf ef pk lk ok uu
    have dn : l.Pairwise fun a b => gE es b ≤ gE es a := by
      have up := hf.up
      rw [ef, List.reverse_append] at up
      exact List.pairwise_reverse.mp (List.pairwise_append.mp (List.pairwise_append.mp up).2.1).1
    obtain ⟨A, B, rfl, ak, bk⟩ := split_ep l dn lk
    have pl := all_placed (sp := sp) (to := to) H ef hf ft pk ak ((okR_app A B Uf).mp ok).1 uu
    have no := go_step (sp := sp) (to := to) H hs ef hf ft lo pk bk pl
    have us := stg_un (sp := sp) (to := to) H uu pl
    have eB : B = [] := by
      cases B with
      | nil => rfl
      | cons b B =>
        have := bk b List.mem_cons_self
        have := H.nn b
        omega
    subst eB
    refine ⟨ord ++ (stg sp to la mem wm 0 Ug).1, (stg sp to la mem wm 0 Ug).2.2, ?_, ?_⟩
    · show (if (stg sp to la mem wm 0 Ug).2.1.any sure = true then none else some (ord ++ (stg sp to la mem wm 0 Ug).1, (stg sp to la mem wm 0 Ug).2.2)) = _
      rw [no]
      rfl
    · exact okR_mono [] us ((okR_app A [] Uf).mp ok).2
  | succ k ih =>
    intro P l ord Ug Uf ef pk lk ok uu
    have dn : l.Pairwise fun a b => gE es b ≤ gE es a := by
      have up := hf.up
      rw [ef, List.reverse_append] at up
      exact List.pairwise_reverse.mp (List.pairwise_append.mp (List.pairwise_append.mp up).2.1).1
    obtain ⟨A, B, rfl, ak, bk⟩ := split_ep l dn lk
    have pl := all_placed (sp := sp) (to := to) H ef hf ft pk ak ((okR_app A B Uf).mp ok).1 uu
    have no := go_step (sp := sp) (to := to) H hs ef hf ft lo pk bk pl
    have us := stg_un (sp := sp) (to := to) H uu pl
    obtain ⟨ord', U', h1, h2⟩ := ih (P ++ A) B (ord ++ (stg sp to la mem wm (k + 1) Ug).1) _ _ (by rw [ef]; simp) (fun p hp => by
      rcases List.mem_append.mp hp with hp | hp
      · have := pk p hp
        omega
      · have := ak p hp
        omega) (fun p hp => by have := bk p hp; omega) ((okR_app A B Uf).mp ok).2 us
    refine ⟨ord', U', ?_, h2⟩
    show (if (stg sp to la mem wm (k + 1) Ug).2.1.any sure = true then none else goF sp to la mem wm sure (downs k) (ord ++ (stg sp to la mem wm (k + 1) Ug).1) (stg sp to la mem wm (k + 1) Ug).2.2) = _
    rw [no]
    exact h1
/-- a fall that fits, at its own epoch, is no fall that isn't found -/
theorem hunt_complete (H : Hnt es T G D begun la mem wm) {e : Nat} (hs : ∀ p, sure p = true ↔ gE es p < (e : Int) ∨ Claimed T D p) {first U : Nat} {r : List Nat} (hf : FallS es (begun ++ r)) (ft : FitS T G D (begun ++ r)) (lo : ∀ j < es.length, gE es j < (e : Int) → j ∈ begun ++ r)
    (le : ∀ p ∈ r, gE es p ≤ (e : Int)) (ok : okR sp to first U r.reverse) : ∃ ord' U', goF sp to la mem wm sure (downs e) [] U = some (ord', U') ∧ first &&& U' = 0 :=
  go_complete H hs hf ft lo e [] r.reverse [] U U (by simp) (fun _ h => (by cases h)) (fun p hp => le p (List.mem_reverse.mp hp)) ok fun _ h => h
end
end Af

set_option Elab.async false
set_option linter.all false
set_option maxRecDepth 100000
namespace Af
section
variable (sp to la : Nat → Nat) (mem : Nat → List Nat) (wm : Nat → Nat) (sure : Nat → Nat → Bool) (first asked : Nat)
/-- what a hunt from an epoch on gives -/
def huntO (e : Nat) : Option (List Nat) := match goF sp to la mem wm (sure e) (downs e) [] asked with
  | none => none
  | some (ord, U') => if first &&& U' = 0 then some ord.reverse else none
end
def findF (ok : Nat → Bool) (h : Nat → Option (List Nat)) : Nat → Nat → Option (List Nat)
  | _, 0 => none
  | e, k + 1 => if ok e = true then (match h e with
    | some r => some r
    | none => findF ok h (e + 1) k) else findF ok h (e + 1) k
theorem find_some {ok : Nat → Bool} {h : Nat → Option (List Nat)} {r : List Nat} : ∀ (k e : Nat), findF ok h e k = some r → ∃ e', e ≤ e' ∧ e' < e + k ∧ ok e' = true ∧ h e' = some r
  | 0, e, q => by cases q
  | k + 1, e, q => by
    unfold findF at q
    by_cases c : ok e = true
    · rw [if_pos c] at q
      cases he : h e with
      | some r' =>
        rw [he] at q
        cases q
        exact ⟨e, Nat.le_refl _, by omega, c, he⟩
      | none =>
        rw [he] at q
        obtain ⟨e', h1, h2, h3⟩ := find_some k (e + 1) q
        exact ⟨e', by omega, by omega, h3⟩
    · rw [if_neg c] at q
      obtain ⟨e', h1, h2, h3⟩ := find_some k (e + 1) q
      exact ⟨e', by omega, by omega, h3⟩
theorem find_none {ok : Nat → Bool} {h : Nat → Option (List Nat)} : ∀ (k e : Nat), findF ok h e k = none → ∀ e', e ≤ e' → e' < e + k → ok e' = true → h e' = none
  | 0, e, q, e', h1, h2, _ => by omega
  | k + 1, e, q, e', h1, h2, h3 => by
    unfold findF at q
    by_cases c : ok e = true
    · rw [if_pos c] at q
      cases he : h e with
      | some r' => rw [he] at q; cases q
      | none =>
        rw [he] at q
        by_cases z : e' = e
        · rw [z]; exact he
        · exact find_none k (e + 1) q e' (by omega) (by omega) h3
    · rw [if_neg c] at q
      by_cases z : e' = e
      · rw [z] at h3; exact absurd h3 c
      · exact find_none k (e + 1) q e' (by omega) (by omega) h3
/-- the epoch of the last piece -/
def lastN (es : List Int) (f : List Nat) : Nat := match f.getLast? with
  | none => 0
  | some p => (gE es p).toNat
theorem lastN_snoc (es : List Int) (X : List Nat) (p : Nat) : lastN es (X ++ [p]) = (gE es p).toNat := by
  unfold lastN
  rw [List.getLast?_append]
  rfl
section
variable {es : List Int} {T G : List Nat} {D : List (Nat × Nat)} {begun : List Nat} {sp to la : Nat → Nat} {mem : Nat → List Nat} {wm : Nat → Nat} {sure : Nat → Nat → Bool} {first asked : Nat}
theorem last_le {f : List Nat} (nn : ∀ j, 0 ≤ gE es j) (h : FallS es f) : ∀ p ∈ f, gE es p ≤ (lastN es f : Int) := fun p hp => by
  rcases List.eq_nil_or_concat f with rfl | ⟨X, q, e⟩
  · cases hp
  · have e : f = X ++ [q] := by rw [e]; simp
    subst e
    rw [lastN_snoc]
    have := nn q
    rcases List.mem_append.mp hp with hp | hp
    · have := (List.pairwise_append.mp h.up).2.2 p hp q (by simp)
      omega
    · rw [List.mem_singleton.mp hp]
      omega
theorem last_lo {f : List Nat} (nn : ∀ j, 0 ≤ gE es j) (h : FallS es f) : ∀ j < es.length, gE es j < (lastN es f : Int) → j ∈ f := fun j hj lj => by
  rcases List.eq_nil_or_concat f with rfl | ⟨X, q, e⟩
  · have := nn j
    have e0 : lastN es [] = 0 := rfl
    rw [e0] at lj
    omega
  · have e : f = X ++ [q] := by rw [e]; simp
    subst e
    rw [lastN_snoc] at lj
    have := nn q
    exact List.mem_append.mpr (.inl (h.lo X q [] rfl j hj (by omega)))
/-- what find gives -/
theorem find_good (H : Hnt es T G D begun la mem wm) (hs : ∀ e p, sure e p = true ↔ gE es p < (e : Int) ∨ Claimed T D p) (fb : FallS es begun) (mb : MayS G D begun) {ok : Nat → Bool} (hk : ∀ e, ok e = true → NoMis es T G D e) {k : Nat} {r : List Nat}
    (h : findF ok (huntO sp to la mem wm sure first asked) (lastN es begun) k = some r) : FallS es (begun ++ r) ∧ FitS T G D (begun ++ r) ∧ okR sp to first asked r.reverse := by
  obtain ⟨e, h1, h2, h3, h4⟩ := find_some k _ h
  unfold huntO at h4
  cases c : goF sp to la mem wm (sure e) (downs e) [] asked with
  | none => rw [c] at h4; cases h4
  | some q =>
    obtain ⟨ord, U'⟩ := q
    rw [c] at h4
    have h4 : (if first &&& U' = 0 then some ord.reverse else none) = some r := h4
    by_cases z : first &&& U' = 0
    · rw [if_pos z] at h4
      cases h4
      obtain ⟨s1, s2, s3, s4, _⟩ := hunt_sound H (hs e) fb mb (hk e h3) (fun p hp => by have := last_le H.nn fb p hp; omega) c
      refine ⟨s1, s2, ?_⟩
      rw [List.reverse_reverse]
      have := (okR_app ord [] asked).mpr ⟨s3, show first &&& unA to asked ord = 0 by rw [← s4]; exact z⟩
      rw [List.append_nil] at this
      exact this
    · rw [if_neg z] at h4
      cases h4
theorem find_all (H : Hnt es T G D begun la mem wm) (hs : ∀ e p, sure e p = true ↔ gE es p < (e : Int) ∨ Claimed T D p) {ok : Nat → Bool} (hk : ∀ e, NoMis es T G D e → (e = 0 ∨ ∃ p < es.length, gE es p = (e : Int)) → ok e = true) {E : Nat} (hE : ∀ p < es.length, gE es p < (E : Int)) (E1 : 1 ≤ E)
    (fb : FallS es begun) {k : Nat} (kk : E ≤ lastN es begun + k)
    (h : findF ok (huntO sp to la mem wm sure first asked) (lastN es begun) k = none) : ∀ r, FallS es (begun ++ r) → FitS T G D (begun ++ r) → okR sp to first asked r.reverse → False := fun r hf ft hok => by
  have le := last_le H.nn hf
  have lo := last_lo H.nn hf
  have nm : NoMis es T G D (lastN es (begun ++ r)) := by
    refine ⟨fun c hc => le c ?_, fun x hx => ?_⟩
    · rcases hc with z | ⟨d, hd, z⟩
      · exact ft.t c z
      · obtain ⟨X, Y, Z, e⟩ := ft.d d hd
        rcases z with rfl | rfl <;> (rw [e]; simp)
    · by_cases c : (lastN es (begun ++ r) : Int) ≤ gE es x
      · exact c
      · exact absurd (lo x (H.cl.gb x hx) (by omega)) (ft.g x hx)
  have own : lastN es (begun ++ r) = 0 ∨ ∃ p < es.length, gE es p = (lastN es (begun ++ r) : Int) := by
    rcases List.eq_nil_or_concat (begun ++ r) with e | ⟨X, q, e⟩
    · rw [e]; exact .inl rfl
    · have e : begun ++ r = X ++ [q] := by rw [e]; simp
      have m : q ∈ begun ++ r := by rw [e]; simp
      refine .inr ⟨q, hf.lt q m, ?_⟩
      rw [e, lastN_snoc]
      have := H.nn q
      omega
  have ge : lastN es begun ≤ lastN es (begun ++ r) := by
    rcases List.eq_nil_or_concat begun with e | ⟨X, q, e⟩
    · rw [e]; exact Nat.zero_le _
    · have e : begun = X ++ [q] := by rw [e]; simp
      have m : q ∈ begun ++ r := by rw [e]; simp
      have := le q m
      have e2 : lastN es begun = (gE es q).toNat := by rw [e, lastN_snoc]
      rw [e2]
      have := H.nn q
      omega
  have lt : lastN es (begun ++ r) < E := by
    rcases own with z | ⟨p, hp, z⟩
    · omega
    · have := hE p hp
      omega
  have no := find_none k _ h _ ge (by omega) (hk _ nm own)
  obtain ⟨ord', U', g1, g2⟩ := hunt_complete (sp := sp) (to := to) (first := first) (U := asked) H (hs _) hf ft lo (fun p hp => le p (List.mem_append.mpr (.inr hp))) hok
  unfold huntO at no
  rw [g1] at no
  have no : (if first &&& U' = 0 then some ord'.reverse else none) = none := no
  rw [if_pos g2] at no
  cases no
end
end Af

set_option Elab.async false
set_option linter.all false
set_option maxRecDepth 100000
namespace Af
open PySem L2
/-! masks as whole numbers -/
theorem ip_and {X : Cx} : PIp X .BitAnd (ipI fun i j => Builtin.bitAnd i j) := by
  intro pins s σ H x y v u Q I r1 r2 h
  obtain ⟨i, j, rfl, rfl, q⟩ := h
  obtain ⟨t, rfl⟩ := r1
  obtain ⟨t', rfl⟩ := r2
  exact PyProof.Rows.iand_int ⟨.int _, H, I.tok _, ⟨_, rfl⟩, q⟩
theorem add_or {a b : Nat} (h : a &&& b = 0) : a + b = a ||| b := by
  have la : a < 2 ^ (a + b + 1) := Nat.lt_of_lt_of_le (Nat.lt_two_pow_self (n := a)) (Nat.pow_le_pow_right (by decide) (by omega))
  have lb : b < 2 ^ (a + b + 1) := Nat.lt_of_lt_of_le (Nat.lt_two_pow_self (n := b)) (Nat.pow_le_pow_right (by decide) (by omega))
  have lab : a + b < 2 ^ (a + b + 1) := Nat.lt_of_lt_of_le (Nat.lt_two_pow_self (n := a + b)) (Nat.pow_le_pow_right (by decide) (by omega))
  have e := BitVec.add_eq_or_of_and_eq_zero (BitVec.ofNat (a + b + 1) a) (BitVec.ofNat (a + b + 1) b) (by
    apply BitVec.eq_of_toNat_eq
    rw [BitVec.toNat_and, BitVec.toNat_ofNat, BitVec.toNat_ofNat, Nat.mod_eq_of_lt la, Nat.mod_eq_of_lt lb, h]
    simp)
  have e := congrArg BitVec.toNat e
  rw [BitVec.toNat_add, BitVec.toNat_or, BitVec.toNat_ofNat, BitVec.toNat_ofNat, Nat.mod_eq_of_lt la, Nat.mod_eq_of_lt lb, Nat.mod_eq_of_lt lab] at e
  exact e
theorem dif_sub (a b : Nat) : a - (a &&& b) = dif a b := by
  have z : (a &&& b) &&& dif a b = 0 := and_zero.mpr fun j h1 h2 => by
    rw [Nat.testBit_and, Bool.and_eq_true] at h1
    rw [dif_bit, h1.2] at h2
    simp at h2
  have e : (a &&& b) ||| dif a b = a := Nat.eq_of_testBit_eq fun j => by
    rw [Nat.testBit_or, Nat.testBit_and, dif_bit]
    cases a.testBit j <;> cases b.testBit j <;> rfl
  have := add_or z
  rw [e] at this
  omega
theorem and_nat (a b : Nat) : Builtin.bitAnd (a : Int) (b : Int) = ((a &&& b : Nat) : Int) := by
  rw [PyProof.Rows.bitAnd_pp (Int.natCast_nonneg _) (Int.natCast_nonneg _), Int.toNat_natCast, Int.toNat_natCast]
theorem and_not (a b : Nat) : Builtin.bitAnd (a : Int) (Builtin.bitNot (b : Int)) = ((dif a b : Nat) : Int) := by
  have h1 : decide (0 ≤ (a : Int)) = true := decide_eq_true (by omega)
  have h2 : decide (0 ≤ Builtin.bitNot (b : Int)) = false := decide_eq_false (by unfold Builtin.bitNot; omega)
  have h3 : (Builtin.bitNot (Builtin.bitNot (b : Int))).toNat = b := by unfold Builtin.bitNot; omega
  unfold Builtin.bitAnd
  rw [h1, h2]
  show (a : Int) - (((a : Int).toNat &&& (Builtin.bitNot (Builtin.bitNot (b : Int))).toNat : Nat) : Int) = _
  rw [h3, Int.toNat_natCast, ← dif_sub]
  have : a &&& b ≤ a := Nat.and_le_left
  omega
/-- the sum of different powers -/
theorem sum_bitsN {ps : List Nat} (h : ps.Nodup) (j : Nat) : (ps.map (2 ^ ·)).sum.testBit j = ps.contains j := by
  have pm : (ps.mergeSort (fun a b => decide (a ≤ b))).Perm ps := List.mergeSort_perm ps _
  have sd := List.pairwise_mergeSort (le := fun a b : Nat => decide (a ≤ b)) (fun a b c h1 h2 => decide_eq_true (Nat.le_trans (of_decide_eq_true h1) (of_decide_eq_true h2))) (fun a b => by simp; omega) ps
  have nd : (ps.mergeSort (fun a b => decide (a ≤ b))).Nodup := pm.nodup_iff.mpr h
  have lt : (ps.mergeSort (fun a b => decide (a ≤ b))).Pairwise (· < ·) := by
    refine List.pairwise_iff_getElem.mpr fun i j hi hj ij => ?_
    have a := of_decide_eq_true (List.pairwise_iff_getElem.mp sd i j hi hj ij)
    have b := List.pairwise_iff_getElem.mp nd i j hi hj ij
    omega
  have e : (ps.map (2 ^ ·)).sum = ((ps.mergeSort (fun a b => decide (a ≤ b))).map (2 ^ ·)).sum := (pm.map _).sum_nat.symm
  rw [e, (sum_bits _ _ rfl lt ((ps.mergeSort (fun a b => decide (a ≤ b))).sum + 1) fun p hp => ?_).2 j, Bool.eq_iff_iff, List.contains_iff_mem, List.contains_iff_mem, pm.mem_iff]
  have : ∀ {l : List Nat} {x : Nat}, x ∈ l → x ≤ l.sum := by
    intro l
    induction l with
    | nil => intro x h; cases h
    | cons a l ih =>
      intro x h
      rw [List.sum_cons]
      rcases List.mem_cons.mp h with rfl | h
      · omega
      · have := ih h
        omega
  have := this hp
  omega
def leastI (m : Nat) : Int := ((Builtin.Int.intBits (Builtin.bitAnd (m : Int) (-(m : Int))) : Nat) : Int) - 1
end Af

set_option Elab.async false
set_option linter.all false
set_option maxRecDepth 100000
set_option maxHeartbeats 2000000
namespace Af
open PySem PySem.Calls PySem.Spec PyProof.Rows L2
/-! len(x) of an instance whose class has its own __len__ -/
structure LenC (K : PySem.W.Frag) (C f : Addr) : Prop where
  ln : PySem.W.findIn K (.ref C) "__len__" = some (some (.ref f))
  fn : PySem.W.isFn K (.ref f) = true
def rLenO (C : Addr) (sp : Sp) : List V → Hp → VK → Prop := fun xs H Q => ∃ a dx fs, xs = [.ref a] ∧ H a = some (.ins C dx fs) ∧ sp [.ref a] H (fun v H' => ∃ n : Nat, v = .int (n : Int) ∧ (n : Int) < 2 ^ 63 ∧ Q (.int (n : Int)) H') E0
section
variable {X : Cx} {C f : Addr} {fd : FuncData} {ps : List Str} {sp : Sp} {k n : Nat}
theorem own_run1 (G : FnOk X.prog X.w X.K X.mg X.base CX0 k f fd ps sp) (hb : Binds X.K fd ps []) {A : Around} (hr : Room k A) (hA : A.frames = X.A.frames) {pins : List (Addr × Obj)} {s : Shared} {σ : L2.St} {H : Hp} {x : V} {v : Value} (I : Inv X pins σ H s) (rx : RelV x v)
    {Q : VK} (hq : sp [x] H Q E0) : wpAny (model X.prog X.w) A (call (.ref f) [v]) (fun r s' => EP X pins σ Q r s') X.xe s := by
  have e0 : Env0 X.prog X.w X.K X.mg X.base A X.stack s H := by
    have e := I.env0
    exact ⟨by rw [hA]; exact e.frames, e.mod, e.bs, e.bsz, e.funs, e.frf, e.hok, e.bare⟩
  have hl := G.len _ _ _ _ hq
  refine wpAny_call (codeAny_mono (G.run A X.stack s H ⟨[v], []⟩ [v] [x] _ E0 hr e0 (by
    have := hb s [v] I.kIn (by simpa using hl)
    simpa using this) (.cons rx .nil) hq) fun r s' z => ?_)
  cases r with
  | error e => exact pass0 pins σ H s e s' I z
  | ok fl =>
    cases fl with
    | ret w => exact I.after z
    | next => exact False.elim z
    | brk => exact False.elim z
    | cont => exact False.elim z
theorem call_lenO (O : LenC X.K C f) (G : FnOk X.prog X.w X.K X.mg X.base CX0 k f fd ps sp) (hb : Binds X.K fd ps []) (hr : Room n X.A) (hkn : k + 1 ≤ n := by decide) : CallR X (.builtin "len") (rLenO C sp) := by
  intro pins s σ H xs us Q I r h
  obtain ⟨a, dx, fs, rfl, ha, q⟩ := h
  obtain rfl := Vals.ref1 r
  obtain ⟨mA, J, _⟩ := ins_get I.hok ha
  obtain ⟨od, J, _⟩ := J.look
  have KI := I.kIn
  refine Calls.call_function_entry kind_len plain_len entry_len (args_len1 _) ?_
  unfold Builtin.«len»
  refine wpAny_bind (m := oneArg "len" _) (wpAny_pure ?_)
  refine wpAny_bind (m := callSpecial? (.ref a) (PySem.Str.ofString "__len__")) (PySem.W.special_fn KI J O.ln (beq_iff_eq.mp O.fn) (wpAny_mono (own_run1 G hb (A := X.A.in1) ((hr.mono hkn).in1) rfl (x := .ref a) I rfl q) (fun v s' z => ?_) fun _ _ z => z))
  obtain ⟨v', H', I', rv, m, e, hm, z⟩ := z
  subst e
  obtain ⟨t, rfl⟩ := rv
  refine wpAny_bind (wpAny_holding (wpAny_pure ?_))
  refine wpAny_bind (wpAny_letGo ?_)
  show wpAny _ _ (if ((m : Nat) : Int) < 0 then _ else _) _ _ _
  rw [if_neg (by omega)]
  show wpAny _ _ (if ((m : Nat) : Int) ≥ 2 ^ 63 then _ else _) _ _ _
  rw [if_neg (by omega)]
  exact wpAny_bind (wpAny_mkInt (wpAny_pure ⟨_, rfl, .int (m : Int), H', I'.tok _, ⟨_, rfl⟩, z⟩))
end
end Af

set_option Elab.async false
set_option linter.all false
set_option maxRecDepth 100000
namespace Af
open PySem PySem.Spec PyProof.Rows L2
/-! a method without arguments called where its error is caught; objects that change, and the heap without them -/
section
variable {X : Cx} {CX : CXT} {k : Nat} {f C : Addr} {fd : FuncData} {ps : List Str} {sp : Sp} {E : L2.St → XK} {m : Str} {pos apos : Pos} {o : Expr} {ta : TE}
theorem pe_meth0X {pl : Sem Bool} (he : PE X o ta) (c : Cls X.K C) (hm : Meth X.K C m f) (F : FnOk X.prog X.w X.K X.mg X.base CX k f fd ps sp) (room : Room k X.A) (b : Binds X.K fd ps []) (out : ∀ σ, PassesAt CX X σ (E σ))
    (h3 : eval (.Call (.Attribute o m apos) [] [] pos) X.env = (do
      let v ← eval o X.env
      standAt apos.atName
      let (g, own) ← holding [v] (getMethod v m pl)
      callWith pos g own (backTo pos (starEach [] X.env)) (backToKw pos (keywordEach [] X.env))) := by rfl) :
    PE X (.Call (.Attribute o m apos) [] [] pos) (tMethX C m sp E ta tNil) := by
  refine ⟨fun pins s σ H Q I h => PySem.W.methodCall_KW (pl := pl) (thn (he.run pins s σ H _ I h) fun u s1 z => ?_) h3⟩
  obtain ⟨x, G, I1, rx, a, dx, fs, ex, ea, l, q⟩ := z
  subst ex
  obtain rfl : u = Value.ref a := rx
  refine getmeth_ok I1 ea c hm l (PySem.W.callWith_K0 (first := [.ref a]) I1.kIn hm.kp ?_)
  exact run_fnS (us := [.ref a]) (vs := [.ref a]) F room b (out σ) I1 (.cons rfl .nil) q
theorem pass0A : ∀ σ, PassesAt CX0 X σ ((fun _ => E0) σ) := fun _ _ _ _ _ _ _ h => h.elim
end
/-- an own class, its fields' names -/
structure ObjC (K : PySem.W.Frag) (mg : Str → Option Value) (n : Str) (C : Addr) (fs : List Str) : Prop where
  cl : Cls K C
  no : ∀ f ∈ fs, NoAttr K C f
  mgC : mg n = some (.ref C)
/-- the heap without what stands at L -/
def hl (L : List Addr) (H : Hp) : Hp := fun a => if a ∈ L then none else H a
theorem hl_at {L : List Addr} {H : Hp} {a : Addr} (h : a ∉ L) : hl L H a = H a := if_neg h
theorem hl_in {L : List Addr} {H : Hp} : Same (hl L H) H := fun a o e => by
  unfold hl at e
  by_cases m : a ∈ L
  · rw [if_pos m] at e
    cases e
  · rw [if_neg m] at e
    exact e
theorem hl_not {L : List Addr} {H : Hp} {a : Addr} {o : HO} (e : hl L H a = some o) : a ∉ L := fun m => by
  unfold hl at e
  rw [if_pos m] at e
  cases e
theorem hl_same {L : List Addr} {H H' : Hp} (s : Same H H') : Same (hl L H) (hl L H') := fun a o e => by
  have n := hl_not e
  rw [hl_at n] at e ⊢
  exact s a o e
/-- all stands but what is named -/
def Fr (M : List Addr) (H H' : Hp) : Prop := ∀ a o, a ∉ M → H a = some o → H' a = some o
theorem Fr.refl {M : List Addr} {H : Hp} : Fr M H H := fun _ _ _ e => e
theorem Fr.trans {M : List Addr} {H H1 H2 : Hp} (a : Fr M H H1) (b : Fr M H1 H2) : Fr M H H2 := fun c o n e => b c o n (a c o n e)
theorem Fr.of {M : List Addr} {H H' : Hp} (s : Same H H') : Fr M H H' := fun a o _ e => s a o e
theorem Fr.mono {M N : List Addr} {H H' : Hp} (f : Fr M H H') (h : ∀ a ∈ M, a ∈ N) : Fr N H H' := fun a o n e => f a o (fun m => n (h a m)) e
theorem Fr.hl {M L : List Addr} {H H' : Hp} (f : Fr M H H') (h : ∀ a ∈ M, a ∈ L) : Same (hl L H) (Af.hl L H') := fun a o e => by
  have n := hl_not e
  rw [hl_at n] at e ⊢
  exact f a o (fun m => n (h a m)) e
theorem Fr.upd {M : List Addr} {H H' : Hp} {a : Addr} {o : HO} (f : Fr M H H') (h : a ∈ M) : Fr M H (L2.upd H' a o) := fun b u n e => by
  rw [upd_ne (fun z => n (by rw [z]; exact h))]
  exact f b u n e
theorem Fr.kp {p : Addr} {H H' : Hp} (k : Kp p H H') : Fr [p] H H' := fun a o n e => k a o (.inl fun z => n (by rw [z]; exact List.mem_singleton.mpr rfl)) e
/-- more is hidden that is new -/
theorem hl_more {L N : List Addr} {H H' : Hp} (s : Same (hl L H) (hl L H')) (n : ∀ a ∈ N, H a = none) : Same (hl L H) (hl (N ++ L) H') := fun a o e => by
  have nl := hl_not e
  have e2 := s a o e
  have e1 := hl_in _ _ e
  rw [hl_at nl] at e2
  rw [hl_at (fun m => ?_)]
  · exact e2
  · rcases List.mem_append.mp m with m | m
    · rw [n a m] at e1
      cases e1
    · exact nl m
/-- what is hidden: lists, and instances of the class R -/
def Lok (R : Addr) (L : List Addr) (H : Hp) : Prop := ∀ a ∈ L, (∃ xs, H a = some (.lst xs)) ∨ ∃ dx fs, H a = some (.ins R dx fs)
theorem Lok.same {R : Addr} {L : List Addr} {H H' : Hp} (h : Lok R L H) (s : Same H H') : Lok R L H' := fun a m => by
  rcases h a m with ⟨xs, e⟩ | ⟨dx, fs, e⟩
  · exact .inl ⟨xs, s _ _ e⟩
  · exact .inr ⟨dx, fs, s _ _ e⟩
theorem Lok.upd {R : Addr} {L : List Addr} {H : Hp} {a : Addr} {o : HO} (h : Lok R L H) (n : (∃ xs, o = .lst xs) ∨ ∃ dx fs, o = .ins R dx fs) : Lok R L (L2.upd H a o) := fun b m => by
  by_cases e : b = a
  · subst e
    rw [upd_same]
    rcases n with ⟨xs, rfl⟩ | ⟨dx, fs, rfl⟩
    · exact .inl ⟨xs, rfl⟩
    · exact .inr ⟨dx, fs, rfl⟩
  · rw [upd_ne e]
    exact h b m
theorem Lok.new {R : Addr} {L : List Addr} {H : Hp} {a : Addr} (h : Lok R L H) (n : H a = none) : a ∉ L := fun m => by
  rcases h a m with ⟨xs, e⟩ | ⟨dx, fs, e⟩ <;> (rw [n] at e; cases e)
theorem Lok.tup {R : Addr} {L : List Addr} {H : Hp} {a : Addr} {xs : List V} (h : Lok R L H) (n : H a = some (.tup xs)) : a ∉ L := fun m => by
  rcases h a m with ⟨xs, e⟩ | ⟨dx, fs, e⟩ <;> (rw [n] at e; cases e)
theorem Lok.ins {R C : Addr} {L : List Addr} {H : Hp} {a dx : Addr} {fs : List (Str × V)} (h : Lok R L H) (n : H a = some (.ins C dx fs)) (ne : C ≠ R) : a ∉ L := fun m => by
  rcases h a m with ⟨xs, e⟩ | ⟨dx, fs, e⟩
  · rw [n] at e; cases e
  · rw [n] at e
    have := Option.some.inj e
    injection this with this
    exact ne this
theorem Lok.app {R : Addr} {L N : List Addr} {H : Hp} (h : Lok R L H) (n : Lok R N H) : Lok R (N ++ L) H := fun a m => by
  rcases List.mem_append.mp m with m | m
  · exact n a m
  · exact h a m
theorem putF_len {f : Str} {v u : V} : ∀ {fs : List (Str × V)}, fs.lookup f = some u → (putF f v fs).length = fs.length
  | [], h => by cases h
  | (g, x) :: r, h => by
    unfold putF
    by_cases e : g = f
    · rw [if_pos e]
      rfl
    · rw [if_neg e, List.length_cons, List.length_cons]
      congr 1
      refine putF_len (f := f) (v := v) (u := u) ?_
      rw [List.lookup_cons] at h
      have : (f == g) = false := by simpa using fun z => e z.symm
      rw [this] at h
      exact h
theorem nd_len : ∀ (n : Nat) (l : List Nat), l.Nodup → (∀ k ∈ l, k < n) → l.length ≤ n
  | 0, [], _, _ => Nat.le_refl _
  | 0, x :: _, _, h => absurd (h x List.mem_cons_self) (Nat.not_lt_zero _)
  | n + 1, l, nd, h => by
    have ih := nd_len n (l.erase n) (nd.erase n) fun k hk => by
      have h1 := h k (List.mem_of_mem_erase hk)
      have h2 : k ≠ n := fun e => by
        rw [e] at hk
        exact nd.not_mem_erase hk
      omega
    by_cases m : n ∈ l
    · rw [List.length_erase_of_mem m] at ih
      omega
    · rw [List.erase_of_not_mem m] at ih
      omega
end Af

set_option Elab.async false
set_option linter.all false
set_option maxRecDepth 100000
set_option maxHeartbeats 4000000
namespace Af
open PySem PySem.Spec PyProof.Rows L2
open Sem (wp)
/-! a display of a dict that begins with another one's entries: {**a, k: v, ..} -/
section
variable {prog : Program} {w : World} {K : Type} [DecidableEq K] {knd : KeyKind prog w K} {A : Around} {E : Value → Shared → Prop} {s : Shared}
theorem dictPut_eq (d : Addr) (h : Int) (key v : Value) : True := trivial
theorem wpAny_dictPut {d : Addr} {kvs : List (K × Value)} {k : K} {key v : Value} {Q : Unit → Shared → Prop} (hkey : knd.is k key = true) (hm : s.heap.DictOf knd d kvs)
    (hQ : ∀ h', h'.DictOf knd d (stored kvs k v) → Heap.SameBut d s.heap h' → Q () { s with heap := h' })
    (hsz : kvs.length ≤ sizeLine) :
    wpAny (model prog w) A (dictPut d (knd.hash k) key v) Q E s := by
  obtain ⟨o, es, ep, ho, hc, hd, hk, hp, hn⟩ := hm
  have hes : es.size ≤ sizeLine := by
    have e1 := hp.length
    have e2 : es.toList.length = es.size := by simp
    omega
  unfold dictPut
  refine wpAny_bind (wpAny_dictFind_of hkey ho hd hk ?_)
  have hidx : (es.findIdx? fun e => knd.is k e.key) = kvs.findIdx? fun kv => decide (kv.1 = k) := by
    rw [← hp.findIdx k]; obtain ⟨l⟩ := es; simp
  cases hi : es.findIdx? fun e => knd.is k e.key with
  | some i =>
    refine wpAny_updateDict ho hd (hQ _ ⟨_, _, ep, Heap.get?_update_self _ ho (Obj.isFreed_of_dict (Obj.data_mapDict hd _)),
      hc.mapDict _, Obj.data_mapDict hd _, hk.modify _ _, ?_, ?_⟩ (Heap.SameBut.update ..))
    · rw [stored, if_pos (any_of_findIdx_some (hidx ▸ hi))]
      have hl : (es.toList.findIdx? fun e => knd.is k e.key) = some i := by rw [← hi]; obtain ⟨l⟩ := es; simp
      have := hp.modify hn hl v
      obtain ⟨l⟩ := es
      simpa using this
    · rw [stored, if_pos (any_of_findIdx_some (hidx ▸ hi)), keys_map_store]; exact hn
  | none =>
    have hnot : k ∉ kvs.map (·.1) := not_mem_of_findIdx_none (hidx ▸ hi)
    have hany : ¬ (kvs.any fun kv => decide (kv.1 = k)) = true := by
      rw [List.any_eq_true]; rintro ⟨kv, hkv, he⟩
      exact hnot (List.mem_map.mpr ⟨kv, hkv, of_decide_eq_true he⟩)
    refine wpAny_updateDictKeys (hz := hes) ho hd (hQ _ ⟨_, _, ep + 1, Heap.get?_update_self _ ho (Obj.isFreed_of_dict (Obj.data_mapDictKeys hd _)),
      hc.mapDictKeys _, Obj.data_mapDictKeys hd _, hk.push hkey _, ?_, ?_⟩ (Heap.SameBut.update ..))
    · rw [stored, if_neg hany]
      have := hp.append hkey (knd.hash k) v
      obtain ⟨l⟩ := es
      simpa using this
    · rw [stored, if_neg hany, List.map_append, List.nodup_append]
      refine ⟨hn, by simp, ?_⟩
      intro a ha b hb
      simp only [List.map_cons, List.map_nil, List.mem_singleton] at hb
      subst hb
      exact fun e => hnot (e ▸ ha)
theorem wpAny_mergeMapping {d a : Addr} {kvs more : List (K × Value)} {Q : Unit → Shared → Prop} (hdo : d ≠ a) (hoS : (a == sysModules) = false)
    (hd : s.heap.DictOf knd d kvs) (ho : s.heap.DictOf knd a more)
    (hQ : ∀ h', h'.DictOf knd d (merged kvs more) → h'.DictOf knd a more → Heap.SameBut d s.heap h' → Q () { s with heap := h' })
    (hsz : kvs.length + more.length ≤ sizeLine) :
    wpAny (model prog w) A (mergeMapping d (.ref a) false) Q E s := by
  obtain ⟨od, esd, epd, hod, hcd, hdd, hkd, hpd, hnd⟩ := id hd
  obtain ⟨oo, eso, epo, hoo, hco, hdo', hko, hpo, hno⟩ := id ho
  have hlen : more.length = eso.size := by rw [← hpo.length]; simp
  unfold mergeMapping
  refine wpAny_bind (wpAny_isInstance ho.typeIs isSubtype_dict_dict ?_)
  simp only [if_true]
  refine wpAny_bind (wpAny_specialOf ho.typeIs F.slot_dict_iter.lookup (wpAny_bind (wpAny_pure ?_)))
  simp only [beq_self_eq_true]
  rw [if_neg (by rw [hoS]; exact Bool.false_ne_true)]
  have loop : wpAny (model prog w) A (do
      let l ← dictEntries a
      let epoch ← dictEpoch a
      forIn (List.range l.size) PUnit.unit fun i (_ : PUnit) => (do
          let l' ← dictEntries a
          match l'[i]? with
            | some e => do
              holding [e.key, e.val] (dictPut d e.hash e.key e.val)
              let ep' ← dictEpoch a
              if (ep' != epoch) = true then do
                  (unsupported "dict.changed-during-merge" : Sem PUnit)
                  pure (ForInStep.yield PUnit.unit)
                else pure (ForInStep.yield PUnit.unit)
            | _ => do
              (unsupported "dict.changed-during-merge" : Sem PUnit)
              pure (ForInStep.yield PUnit.unit) : Sem (ForInStep PUnit))
      pure ()) Q E s := by
    refine wpAny_bind (wpAny_dictEntries hoo hdo' ?_)
    refine wpAny_bind (wpAny_dictEpoch hoo hdo' ?_)
    refine wpAny_bind ?_
    rw [List.range_eq_range']
    refine wpAny_forIn_list _
      (fun rest _ s' => ∃ h' i, s' = { s with heap := h' } ∧ rest = List.range' i (eso.size - i) ∧ i ≤ eso.size ∧ h'.DictOf knd d (merged kvs (more.take i)) ∧ h'.get? a = some oo ∧ Heap.SameBut d s.heap h')
      _ ?_ ?_ _ _ ⟨s.heap, 0, rfl, by simp, Nat.zero_le _, by simpa [merged] using hd, hoo, Heap.SameBut.refl _ _⟩
    · rintro x rest b s' ⟨h', i, rfl, hr, hi, hd', hoo', hs'⟩
      have hlt : i < eso.size := by
        rcases Nat.lt_or_ge i eso.size with h | h
        · exact h
        · rw [Nat.sub_eq_zero_of_le h] at hr; simp at hr
      obtain ⟨rfl, hrest⟩ : x = i ∧ rest = List.range' (i + 1) (eso.size - (i + 1)) := by
        have e : eso.size - i = (eso.size - (i + 1)) + 1 := by omega
        rw [e, List.range'_succ] at hr
        injection hr with h1 h2
        exact ⟨h1, h2⟩
      refine wpAny_bind (wpAny_dictEntries hoo' hdo' ?_)
      rw [Array.getElem?_eq_getElem hlt]
      obtain ⟨kv, hkv⟩ : ∃ kv, more[x]? = some kv := ⟨more[x]'(by rw [hlen]; exact hlt), List.getElem?_eq_getElem _⟩
      obtain ⟨k, v⟩ := kv
      obtain ⟨hkey, hval⟩ := hpo.get? (e := eso[x]) (by simp [hlt]) hkv
      obtain ⟨k', hkey', hhash⟩ := hko eso[x] (Array.getElem_mem hlt)
      obtain rfl : k' = k := knd.inj _ _ _ hkey' hkey
      show wpAny _ _ (holding [eso[x].key, eso[x].val] (dictPut d eso[x].hash eso[x].key eso[x].val) >>= _) _ _ _
      rw [hhash, hval]
      have hmx : (merged kvs (more.take x)).length ≤ sizeLine := by
        have e1 := merged_length_le kvs (more.take x)
        have e2 : (more.take x).length ≤ more.length := by rw [List.length_take]; omega
        omega
      refine wpAny_bind (wpAny_holding (wpAny_dictPut hkey hd' (fun h'' hd'' hs'' => ?_) hmx))
      have hoo'' : h''.get? a = some oo := (hs''.2 a (Ne.symm hdo)).trans hoo'
      refine wpAny_bind (wpAny_dictEpoch hoo'' hdo' ?_)
      rw [if_neg (by simp)]
      exact wpAny_pure ⟨h'', x + 1, rfl, hrest, hlt, by rw [merged_take_succ kvs more x (k', v) hkv]; exact hd'', hoo'', hs'.trans hs''⟩
    · rintro b s' ⟨h', i, rfl, hr, hi, hd', hoo', hs'⟩
      have hin : i = eso.size := by
        rcases Nat.lt_or_ge i eso.size with h | h
        · have e : eso.size - i = (eso.size - (i + 1)) + 1 := by omega
          rw [e, List.range'_succ] at hr; exact nomatch hr
        · exact Nat.le_antisymm hi h
      refine wpAny_pure (hQ h' ?_ ⟨oo, eso, epo, hoo', hco, hdo', hko, hpo, hno⟩ hs')
      rw [hin, ← hlen, List.take_length] at hd'; exact hd'
  refine wpAny_bind (wpAny_dictEntries hod hdd ?_)
  split
  · refine wpAny_bind (wpAny_dictEntries hoo hdo' ?_)
    have h0 : (forIn eso PUnit.unit fun (e : DictEntry) (_ : PUnit) => (match e.key with
        | Value.ref a => do
          let q ← specialOf e.key (Str.ofString "__eq__")
          if (q != some (Value.builtin "object.__eq__")) = true then
              if (Array.filter (fun x => x.hash == e.hash) eso).size > 1 then do
                (unsupported "dict.merge-into-an-empty-dict:keys-of-equal-hash" : Sem PUnit)
                pure (ForInStep.yield PUnit.unit)
              else pure (ForInStep.yield PUnit.unit)
            else pure (ForInStep.yield PUnit.unit)
        | x => pure (ForInStep.yield PUnit.unit) : Sem (ForInStep PUnit))) = pure PUnit.unit := by
      rw [← Array.forIn_toList]
      refine forIn_yield_id _ fun e he c => ?_
      obtain ⟨k, hkey, _⟩ := hko e (Array.mem_toList_iff.mp he)
      have b := knd.byValue k _ hkey
      cases hk : e.key <;> first | rfl | (rw [hk] at b; cases b)
    exact wpAny_bind (wpAny_of_eq h0 loop)
  · exact loop
theorem forIn_gatherM (main : Option Addr) (f : (Option (Sem Value) × Sem Value) → (Option Addr × List (Sem Value × Sem Value)) → Sem (ForInStep (Option Addr × List (Sem Value × Sem Value))))
    (hf : ∀ (p : Sem Value × Sem Value) (run : List (Sem Value × Sem Value)), run.length + 1 < 17 → f (some p.1, p.2) (main, run) = pure (.yield (main, run ++ [p]))) :
    ∀ (items run : List (Sem Value × Sem Value)), run.length + items.length < 17 → forIn (items.map fun p => (some p.1, p.2)) (main, run) f = pure (main, run ++ items)
  | [], run, _ => by simp
  | p :: rest, run, h => by
    rw [List.map_cons, List.forIn_cons, hf p run (by simp at h; omega), pure_bind]
    have := forIn_gatherM main f hf rest (run ++ [p]) (by simp at h ⊢; omega)
    simpa using this
theorem wpAny_no {α : Type} {m : Sem α} {Q : α → Shared → Prop} {E' : Value → Shared → Prop} (h : wpAny (model prog w) A m Q (fun _ _ => False) s) : wpAny (model prog w) A m Q E' s := wpAny_mono h (fun _ _ x => x) fun _ _ x => x.elim
theorem wpAny_spread {m : Sem Value} {pairs : List (Sem Value × Sem Value)} {Q : Value → Shared → Prop} (h0 : pairs ≠ []) (hlen : pairs.length ≤ 15)
    (h : wpAny (model prog w) A m (fun v s1 => wpAny (model prog w) A (mergeMapping s.heap.objs.size v false) (fun _ s2 => wpAny (model prog w) A (subDict pairs) (fun sub s3 =>
      wpAny (model prog w) A (mergeMapping s.heap.objs.size (.ref sub) false) (fun _ s4 => Q (.ref s.heap.objs.size) s4) (fun _ _ => False) s3) E s2) (fun _ _ => False) s1) E
      { s with heap := s.heap.push { cls := .type "dict", data := .dict #[] } }) :
    wpAny (model prog w) A (dictDisplay ((none, m) :: pairs.map fun p => (some p.1, p.2))) Q E s := by
  unfold dictDisplay
  dsimp only
  rw [List.forIn_cons]
  simp only [List.isEmpty_nil, if_true, pure_bind]
  refine wpAny_bind (wpAny_bind (wpAny_bind (wpAny_alloc ?_)))
  refine wpAny_bind (wpAny_holding (wpAny_mono h (fun v s1 h1 => ?_) fun _ _ e => e))
  refine wpAny_bind (wpAny_onRaise (wpAny_tryCatch (wpAny_onRaise (wpAny_holding (wpAny_mono h1 (fun _ s2 h2 => ?_) fun _ _ x => x.elim)))))
  refine wpAny_pure ?_
  simp only []
  rw [forIn_gatherM (some s.heap.objs.size) _ (fun p run h => by
    have hne : ((run ++ [(p.1, p.2)]).length == 17) = false := by simp; omega
    simp only [hne, Bool.false_eq_true, if_false]) pairs [] (by simp; omega)]
  refine wpAny_pure ?_
  simp only [List.nil_append]
  have he : pairs.isEmpty = false := by
    cases pairs with
    | nil => exact absurd rfl h0
    | cons a b => rfl
  simp only [he, Bool.false_eq_true, if_false]
  refine wpAny_bind (wpAny_bind (wpAny_holding (wpAny_mono h2 (fun sub s3 h3 => ?_) fun _ _ e => e)))
  refine wpAny_bind (wpAny_onRaise (wpAny_holding (wpAny_mono h3 (fun _ s4 h4 => ?_) fun _ _ x => x.elim)))
  exact wpAny_pure (wpAny_pure h4)
end
/-- {**a, k: v, ..}: the new dict stands empty, then with a's entries, while the pairs are made -/
def tSpread (te : TE) (trs : List (TE × TE)) : TE := fun σ H Q => ∀ p, H p = none → te σ (upd H p (.dK [])) fun x H1 => ∃ a kvs, x = .ref a ∧ a ≠ p ∧ H1 a = some (.dK kvs) ∧ H1 p = some (.dK []) ∧ kvs.length ≤ 1000 ∧
  ∀ p2, H1 p2 = none → tPairs trs σ (upd (upd H1 p (.dK kvs)) p2 (.dK [])) fun ps H2 => H2 p = some (.dK kvs) ∧ H2 p2 = some (.dK []) ∧ ∃ kvs2 : List (Key × V), ps = kvs2.map (fun kv => (kV kv.1, kv.2)) ∧ kvs2.length ≤ 15 ∧
    Q (.ref p) (upd (upd H2 p2 (.dK (mergeK [] kvs2))) p (.dK (mergeK kvs (mergeK [] kvs2))))
theorem pe_spread {X : Cx} {pos : Pos} {e : Expr} {keys : List (Option Expr)} {values : List Expr} {te : TE} {trs : List (TE × TE)} (he : PE X e te) (h : PPs X pos keys values trs) (hall : keys.all (·.isSome) = true) (hl : keys.length = values.length) (h0 : keys ≠ [])
    (h15 : keys.length ≤ 15) : PE X (.Dict (none :: keys) (e :: values) pos) (tSpread te trs) := by
  refine ⟨fun pins s σ H Q I q => ?_⟩
  have hn := I.hok.fresh (Nat.le_refl s.heap.objs.size)
  have I1 := I.laid (a := s.heap.objs.size) (o := .dK []) (h' := s.heap.push { cls := .type "dict", data := .dict #[] }) (t' := s.toks) (fun _ _ q => Heap.get?_push_of_some _ q) (Nat.le_refl _) (dk_empty s.heap I.big)
  rw [arm_eval_Dict]
  refine wpAny_bind (wpAny_standAt ?_)
  have hz : (evalEachOpt (none :: keys) X.env).zip ((evalEach (e :: values) X.env).map fun v => do let x ← v; standAt pos; pure x) = (none, do let x ← eval e X.env; standAt pos; pure x) :: (pairTrees keys values X.env pos).map fun p => (some p.1, p.2) := by
    rw [← zip_pairTrees keys values X.env pos hall hl]
    rfl
  rw [hz]
  have hpl := pairTrees_length keys values X.env pos hall hl
  refine wpAny_spread (by intro z; rw [z] at hpl; exact h0 (List.length_eq_zero_iff.mp hpl.symm)) (by rw [hpl]; exact h15) ?_
  refine wpAny_bind (thn (he.run pins _ σ _ _ I1 (q _ hn)) fun v s1 ⟨x, H1, I2, rx, a, kvs, ex, nap, ha, hp, lk, q2⟩ => wpAny_bind (wpAny_standAt (wpAny_pure ?_)))
  subst ex
  cases rx
  obtain ⟨z, hd, vs, rel, dd⟩ := dk_of I2.hok ha
  obtain ⟨_, hd0, vs0, r0, dd0⟩ := dk_of I2.hok hp
  cases r0
  refine wpAny_mergeMapping (kvs := []) (more := vs) (fun e => nap e.symm) hd dd0 dd (fun h' dd' _ hs => ?_) (by rw [← rel.length, sizeLine_eq, List.length_nil]; omega)
  have hno : (vs.map (·.1)).Nodup := let ⟨_, _, _, _, _, _, _, _, hn⟩ := dd; hn
  rw [merged_nil_of_nodup vs hno] at dd'
  have he1 : ∃ q, h'.get? s.heap.objs.size = some q := let ⟨q, _, _, hq, _⟩ := dd'; ⟨q, hq⟩
  have I3 := d_write (t' := s1.toks) I2 (by rw [hp]; exact True.intro) hs he1 (dk_new z hd0 rel dd')
  have hn2 := I3.hok.fresh (Nat.le_refl h'.objs.size)
  have np2 : h'.objs.size ≠ s.heap.objs.size := fun e => by
    rw [e, upd_same] at hn2
    cases hn2
  rw [upd_ne np2] at hn2
  have I4 := I3.laid (a := h'.objs.size) (o := .dK []) (h' := h'.push { cls := .type "dict", data := .dict #[] }) (t' := s1.toks) (fun _ _ q => Heap.get?_push_of_some _ q) (Nat.le_refl _) (dk_empty h' I3.big)
  refine wpAny_subDict (knd := mixKind X.prog X.w) (by rw [hpl]; exact h15) (thn (h.run pins _ σ _ _ I4 (q2 _ hn2)) fun ws s2 ⟨ps, H2, I5, rel2, e1, e2, kvs2, ep, lk2, q3⟩ => ?_)
  subst ep
  obtain ⟨rs, c, rk⟩ := carries_of (P := X.prog) (w := X.w) rel2
  obtain ⟨z2, hd2, vs2, r2, dd2⟩ := dk_of I5.hok e2
  cases r2
  refine ⟨rs, c, dd2, fun h2 dd3 hs2 => ?_⟩
  have hz2 : (mergeK [] kvs2).length ≤ sizeLine := by
    have h1 := length_mergeK kvs2 []
    rw [List.length_nil] at h1
    rw [sizeLine_eq]; omega
  have he2 : ∃ q, h2.get? h'.objs.size = some q := let ⟨q, _, _, hq, _⟩ := dd3; ⟨q, hq⟩
  have I6 := d_write (t' := s2.toks + ws.length) I5 (by rw [e2]; exact True.intro) hs2 he2 (dk_new hz2 hd2 (rk.merge .nil) dd3)
  have e3 : (upd H2 h'.objs.size (.dK (mergeK [] kvs2))) s.heap.objs.size = some (.dK kvs) := by rw [upd_ne (Ne.symm np2)]; exact e1
  have e4 : (upd H2 h'.objs.size (.dK (mergeK [] kvs2))) h'.objs.size = some (.dK (mergeK [] kvs2)) := upd_same
  obtain ⟨z5, hd5, vs5, r5, dd5⟩ := dk_of I6.hok e3
  obtain ⟨z6, hd6, vs6, r6, dd6⟩ := dk_of I6.hok e4
  refine wpAny_mergeMapping (kvs := vs5) (more := vs6) (Ne.symm np2) hd6 dd5 dd6 (fun h3 dd7 _ hs3 => ?_) ?_
  · have hz3 : (mergeK kvs (mergeK [] kvs2)).length ≤ sizeLine := by
      have h1 := length_mergeK kvs2 []
      have h2 := length_mergeK (mergeK [] kvs2) kvs
      rw [List.length_nil] at h1
      rw [sizeLine_eq]; omega
    have he3 : ∃ q, h3.get? s.heap.objs.size = some q := let ⟨q, _, _, hq, _⟩ := dd7; ⟨q, hq⟩
    exact ⟨.ref s.heap.objs.size, _, d_write (t' := s2.toks + ws.length) I6 (by rw [e3]; exact True.intro) hs3 he3 (dk_new hz3 hd5 (r6.merge r5) dd7), rfl, q3⟩
  · rw [← r5.length, ← r6.length]
    have h1 := length_mergeK kvs2 []
    rw [List.length_nil] at h1
    rw [sizeLine_eq]; omega
end Af

set_option Elab.async false
set_option linter.all false
set_option maxRecDepth 100000
set_option maxHeartbeats 4000000
/-! sorted(xs), xs a list of pairs that begin with a number, all numbers different -/
namespace Af
open PySem PySem.Spec PyProof.Rows L2 Srt SrtO
section
variable {prog : Program} {w : World} {A : Around} {E : Value → Shared → Prop} {s : Shared}
def IsKp (h : Heap) (v : Value) (x : Int) : Prop := ∃ a o t b n, v = .ref a ∧ h.get? a = some o ∧ o.cls = .type "tuple" ∧ o.data = .seq #[.int x t, .ref b] n
theorem IsKp.keeps {h h' : Heap} {v : Value} {x : Int} (p : IsKp h v x) (k : ∀ b o, h.get? b = some o → o.cls = .type "tuple" → h'.get? b = some o) : IsKp h' v x := by
  obtain ⟨a, o, t, b, n, e, ho, hc, hd⟩ := p
  exact ⟨a, o, t, b, n, e, k _ _ ho hc, hc, hd⟩
theorem kfirsts {h : Heap} : ∀ {vs : List Value}, (∀ v ∈ vs, ∃ x, IsKp h v x) → ∃ fs : List Value, PySem.W.KatTups h vs fs ∧ fs.length = vs.length ∧ ∀ f ∈ fs, ∃ x t, f = Value.int x t
  | [], _ => ⟨[], PySem.W.KatTups.nil, rfl, fun _ hm => by simp at hm⟩
  | v :: vs, hp => by
    obtain ⟨fs, h1, h2, h3⟩ := kfirsts (vs := vs) fun v' hm => hp v' (List.mem_cons_of_mem _ hm)
    obtain ⟨x, a, o, t, b, n, e, ho, hc, hd⟩ := hp v (List.mem_cons_self ..)
    subst e
    refine ⟨.int x t :: fs, PySem.W.KatTups.cons ho hc hd rfl h1, by rw [List.length_cons, List.length_cons, h2], fun f hm => ?_⟩
    rcases List.mem_cons.mp hm with rfl | hm
    · exact ⟨x, t, rfl⟩
    · exact h3 f hm
theorem swo_k (k : Value → Int) : Swo fun v u => decide (k v < k u) := by
  refine ⟨fun x y h => ?_, fun x y z h1 h2 => ?_⟩
  · have a := of_decide_eq_true h
    exact decide_eq_false (by omega)
  · have a := of_decide_eq_false h1
    have b := of_decide_eq_false h2
    exact decide_eq_false (by omega)
theorem kp_cmp {vs : List Value} {k : Value → Int} (hp : ∀ v ∈ vs, IsKp s.heap v (k v)) (df : ∀ v ∈ vs, ∀ u ∈ vs, k v = k u → v = u) : Cmp prog w A s (tuples' true) (fun p => p.1 ∈ vs) (lt2 fun v u => decide (k v < k u)) := by
  intro p q hm hm'
  have h1 := hp _ hm
  have h2 := hp _ hm'
  have h3 := df _ hm _ hm'
  show wpAny (model prog w) A (keyLt' (tuples' true) p.1 q.1) (fun r s' => s' = s ∧ r = decide (k p.1 < k q.1)) (fun _ _ => False) s
  generalize k p.1 = x at h1 h3 ⊢
  generalize k q.1 = x' at h2 h3 ⊢
  obtain ⟨a, o, t, b, n, e, ho, hc, hd⟩ := h1
  obtain ⟨a', o', t', b', n', e', ho', hc', hd'⟩ := h2
  rw [e, e'] at h3 ⊢
  refine PySem.W.kat_lt ho hd ho' hd' ?_
  show PySem.W.KatLex prog w A true (decide (2 < 2)) _ [(.int x t, .int x' t'), (.ref b, .ref b')] 0 s
  refine PySem.W.kat_cons (SeqAt.EqAt.int_int x t x' t' prog w _ _ ?_)
  refine PySem.W.kat_go (fun e1 => ?_) (fun e1 => ?_)
  · have ex : x = x' := by simpa using e1
    have ea : a = a' := Value.ref.inj (h3 ex)
    subst ea
    rw [ho] at ho'
    cases ho'
    rw [hd] at hd'
    have eb : b = b' := by
      injection hd' with q1 q2
      have := congrArg Array.toList q1
      simp at this
      exact this.2
    subst eb
    refine PySem.W.kat_yes (PySem.W.kat_cons (SeqAt.EqAt.same (.ref b) prog w _ _ ?_))
    refine PySem.W.kat_go (fun e2 => ?_) (fun e2 => ?_)
    · exact PySem.W.kat_yes (PySem.W.kat_nil ⟨rfl, by rw [ex]; exact (decide_eq_false (Int.lt_irrefl _)).symm⟩)
    · cases e2
  · exact PySem.W.kat_no (oneLt_int ⟨rfl, rfl⟩)
theorem kp_sortable {a : Addr} {vs : List Value} {k : Value → Int} (h0 : 0 < vs.length) (hp : ∀ v ∈ vs, IsKp s.heap v (k v)) (df : ∀ v ∈ vs, ∀ u ∈ vs, k v = k u → v = u) (ha : ∀ o, s.heap.get? a = some o → o.cls ≠ .type "tuple") : SortableO prog w A s a vs fun v u => decide (k v < k u) := by
  intro h' keep
  have hp' : ∀ v ∈ vs, IsKp h' v (k v) := fun v hm => (hp v hm).keeps fun b o e c => keep b o (fun z => by subst z; exact ha o e c) e
  obtain ⟨fs, h1, h2, h3⟩ := kfirsts fun v hm => ⟨_, hp' v hm⟩
  refine ⟨tuples' true, fun Q E hq => ?_, kp_cmp hp' df⟩
  refine PySem.W.kat_kind (T := .type "int") h1 (by omega) (fun f hm => ?_) (by rfl) ?_
  · obtain ⟨x, t, rfl⟩ := h3 f hm
    exact PySem.W.Looks.now
  · have e : (Value.type "int" != Value.type "tuple") = true := by first | decide +kernel | rfl | decide
    rw [e]
    exact hq
theorem sorted_kp {l : Addr} {vs : List Value} {k : Value → Int} {Q : Value → Shared → Prop} (hl : s.heap.IsList l vs.toArray) (hz : vs.length ≤ sizeLine) (hp : ∀ v ∈ vs, IsKp s.heap v (k v)) (df : ∀ v ∈ vs, ∀ u ∈ vs, k v = k u → v = u)
    (h : ∀ (h' : Heap) (d : Addr) (out : List Value), Srtd (fun v u => decide (k v < k u)) out → Stb (fun v u => decide (k v < k u)) out vs → (∀ b o, s.heap.get? b = some o → h'.get? b = some o) → s.heap.objs.size ≤ d → (∃ n, h'.get? d = some (seqObj "list" out.toArray n)) → Q (.ref d) { s with heap := h' }) :
    wpAny (model prog w) A (call (.builtin "sorted") [.ref l]) Q E s := by
  refine sorted_ord (swo_k k) hl hz (fun h2 h₁ a ha kk => ?_) fun out hs hb => ?_
  · refine kp_sortable (s := { s with heap := h₁ }) (by omega) (fun v hm => (hp v hm).keeps fun b o e _ => (kk b o e).2) df fun o e => ?_
    have e' : some o = some (seqObj "list" vs.toArray 0) := e.symm.trans ha
    cases e'
    intro c
    exact absurd (Value.type.inj c) (by decide)
  · exact h _ _ out hs hb (fun b o e => sortedAll_old e) (Nat.le_succ _) (sortedAll_at s.heap vs out.toArray)
end
/-- sorted(xs), xs a list of pairs that begin with different numbers (k says which): a new list of the same, ascending -/
def rSortedKP (K : PySem.W.Frag) : List V → Hp → VK → Prop := fun vs H Q => ∃ (a : Addr) (xs : List V) (k : V → Int), vs = [V.ref a] ∧ SqL K H a xs ∧ (∀ x ∈ xs, ∃ t b, x = V.ref t ∧ H t = some (.tup [.int (k x), .ref b])) ∧ (∀ x ∈ xs, ∀ y ∈ xs, k x = k y → x = y) ∧
  ∀ (ys : List V) p, ys.Perm xs → ys.Pairwise (fun x y => k x ≤ k y) → H p = none → Q (.ref p) (upd H p (.lst ys))
section
variable {X : Cx}
theorem cr_sortedKP : CallR X (.builtin "sorted") (rSortedKP X.K) := by
  intro pins s σ H vs us Q I r h
  obtain ⟨a, xs, k, rfl, hs, hx, df, q⟩ := h
  obtain ⟨its, rv, hl, hz⟩ := I.list hs
  obtain ⟨u, rfl, ru⟩ := vals1 r
  obtain rfl : u = Value.ref a := ru
  obtain ⟨e1, e2⟩ := refs_back rv fun x m => by
    obtain ⟨t, b, e, _⟩ := hx x m
    exact ⟨t, e⟩
  have back : ∀ v ∈ its, ∃ t, v = Value.ref t ∧ backV v = V.ref t ∧ V.ref t ∈ xs := fun v hv => by
    obtain ⟨t, rfl⟩ := e2 v hv
    exact ⟨t, rfl, rfl, by rw [e1]; exact List.mem_map.mpr ⟨_, hv, rfl⟩⟩
  refine sorted_kp (k := fun u => k (backV u)) hl.isList (by rw [← rv.length]; exact hz) (fun v hv => ?_) (fun v hv u hu e => ?_) fun h' d out h1 h2 kp hd hn => ?_
  · obtain ⟨t, rfl, eb, hm⟩ := back v hv
    obtain ⟨t', b, e, ht⟩ := hx _ hm
    cases e
    obtain ⟨_, its2, r2, o, ho, hc, n, hd⟩ := I.hok _ _ ht
    obtain ⟨u1, u2, rfl, ri, rj⟩ := vals2 r2
    obtain ⟨t1, rfl⟩ := ri
    cases rj
    exact ⟨t, o, t1, b, n, rfl, ho, hc, hd⟩
  · obtain ⟨t, rfl, eb, hm⟩ := back v hv
    obtain ⟨t', rfl, eb', hm'⟩ := back u hu
    rw [eb, eb'] at e
    have := df _ hm _ hm' e
    injection this with this
    rw [this]
  · have h3 : ∀ u ∈ out, ∃ a, u = Value.ref a := fun u hu => e2 u (h2.perm.mem_iff.mp hu)
    obtain ⟨n, hn⟩ := hn
    have hp : (out.map backV).Perm xs := by
      rw [e1]
      exact h2.perm.map backV
    refine ⟨.ref d, upd H d (.lst (out.map backV)), I.laid (t' := s.toks) kp hd ⟨?_, out, n, vals_back h3, hn⟩, rfl, q _ d hp ?_ (I.hok.fresh hd)⟩
    · rw [hp.length_eq]
      exact hz
    · rw [List.pairwise_map]
      refine List.Pairwise.imp (fun {u v} huv => ?_) h1
      have := of_decide_eq_false huv
      omega
end
end Af

set_option Elab.async false
set_option linter.all false
set_option maxRecDepth 100000
set_option maxHeartbeats 4000000
/-! a walk over zip(xs, t), xs a list and t a tuple -/
namespace Af
open PySem PySem.Spec PyProof.Rows L2
def ItzM (K : PySem.W.Frag) (a b : Addr) : It where
  go := fun i H => ∃ (xs ys : List V) (x y : V), SqL K H a xs ∧ SqT K H b ys ∧ xs[i]? = some x ∧ ys[i]? = some y
  yld := fun i H v H' => ∃ T x y, v = .ref T ∧ H T = none ∧ H' = upd H T (.tup [x, y]) ∧ (∀ xs, SqL K H a xs → xs[i]? = some x) ∧ ∀ ys, SqT K H b ys → ys[i]? = some y
  stop := fun i H => ∃ xs ys : List V, SqL K H a xs ∧ SqT K H b ys ∧ i = min xs.length ys.length
def ZmAt (z TI TO i1 i2 l t : Addr) (i : Nat) (h : Heap) : Prop := IsZip h z TI TO .none ∧ IsTupOf2 h TI (.ref i1) (.ref i2) ∧ (∃ a1 a2, IsTupOf2 h TO a1 a2) ∧ h.IsListIter i1 l i ∧ h.IsTupleIter i2 t i
theorem zm_sep {N l t : Addr} (hl : l < N) (ht : t < N) : ZipSep2 (N + 4) (N + 2) (N + 3) N (N + 1) [N, l] [N + 1, t] := by
  have h1 : l ≠ N + 4 ∧ l ≠ N + 3 ∧ l ≠ N + 1 := ⟨Nat.ne_of_lt (Nat.lt_add_right 4 hl), Nat.ne_of_lt (Nat.lt_add_right 3 hl), Nat.ne_of_lt (Nat.lt_add_right 1 hl)⟩
  have h2 : t ≠ N + 4 ∧ t ≠ N + 3 ∧ t ≠ N := ⟨Nat.ne_of_lt (Nat.lt_add_right 4 ht), Nat.ne_of_lt (Nat.lt_add_right 3 ht), Nat.ne_of_lt ht⟩
  have p : ∀ j k : Nat, j ≠ k → (N + j : Nat) ≠ N + k := fun j k n e => n (Nat.add_left_cancel e)
  have q : ∀ j : Nat, j ≠ 0 → (N + j : Nat) ≠ N := fun j n e => n (Nat.add_left_cancel (e.trans (Nat.add_zero N).symm))
  refine ⟨p 2 4 (by decide), p 3 4 (by decide), p 2 3 (by decide), q 2 (by decide), List.mem_cons_self, ?_, ?_, p 2 1 (by decide), List.mem_cons_self, ?_, ?_, ?_, ?_⟩
  · exact fun m => by
      rcases List.mem_cons.mp m with e | m
      · exact q 4 (by decide) e
      · exact h1.1 (List.mem_singleton.mp m).symm
  · exact fun m => by
      rcases List.mem_cons.mp m with e | m
      · exact q 3 (by decide) e
      · exact h1.2.1 (List.mem_singleton.mp m).symm
  · exact fun m => by
      rcases List.mem_cons.mp m with e | m
      · exact p 4 1 (by decide) e
      · exact h2.1 (List.mem_singleton.mp m).symm
  · exact fun m => by
      rcases List.mem_cons.mp m with e | m
      · exact p 3 1 (by decide) e
      · exact h2.2.1 (List.mem_singleton.mp m).symm
  · exact fun m => by
      rcases List.mem_cons.mp m with e | m
      · exact q 1 (by decide) e.symm
      · exact h2.2.2 (List.mem_singleton.mp m).symm
  · exact fun m => by
      rcases List.mem_cons.mp m with e | m
      · exact q 1 (by decide) e
      · exact h1.2.2 (List.mem_singleton.mp m).symm
theorem zm_turn {P : Program} {w : World} {K : PySem.W.Frag} {elts : List Expr} {kk : Nat} {tpos : Pos} {a b z TI TO i1 i2 : Addr} (S : ZipSep2 z TI TO i1 i2 [i1, a] [i2, b]) (na : a ≠ i1) (nb : b ≠ i2) :
    Turn P w K (.Tuple elts kk tpos) (ItzM K a b) [z, TI, TO, i1, i2] z (ZmAt z TI TO i1 i2 a b) where
  mem := List.mem_cons_self
  obj := fun i h st c hc => by
    obtain ⟨hz, hI, ⟨x, y, hO⟩, ⟨o1, e1, c1, d1⟩, ⟨o2, e2, c2, d2⟩⟩ := st
    simp only [List.mem_cons, List.not_mem_nil, or_false] at hc
    rcases hc with rfl | rfl | rfl | rfl | rfl
    · exact ⟨_, hz, fun v q => by cases q⟩
    · exact ⟨_, hI, fun v q => by cases q⟩
    · exact ⟨_, hO, fun v q => by cases q⟩
    · exact ⟨_, e1, fun v q => by rw [d1] at q; cases q⟩
    · exact ⟨_, e2, fun v q => by rw [d2] at q; cases q⟩
  keep := fun i h h' st k => by
    obtain ⟨hz, hI, ⟨x, y, hO⟩, h1, h2⟩ := st
    refine ⟨k z ?_ _ hz, k TI ?_ _ hI, ⟨x, y, k TO ?_ _ hO⟩, h1.at fun o q => k i1 ?_ o q, h2.at fun o q => k i2 ?_ o q⟩ <;> simp
  item := by
    intro X hP hw hK hc i pins s σ H E I hf st hg
    subst hP hw hK
    obtain ⟨hz, hI, hO, h1, h2⟩ := st
    obtain ⟨xs, ys, x, y, hqx, hqy, hx, hy⟩ := hg
    obtain ⟨its, rv, p, _⟩ := I.list hqx
    obtain ⟨its2, rv2, p2, _⟩ := I.tuple hqy
    have hh : X.A.in1.handled = none := I.ok.hd hc
    have W := GoesN.zip2 (prog := X.prog) (w := X.w) (A := X.A) (elts := elts) (x1 := kk) (pos := tpos) S (Draws.list hh i1 a na its.toArray) (Draws.tuple hh i2 b nb its2.toArray)
    have lx : i < its.length := by rw [← rv.length]; exact (List.getElem?_eq_some_iff.mp hx).1
    have ly : i < its2.length := by rw [← rv2.length]; exact (List.getElem?_eq_some_iff.mp hy).1
    have hi : i < min its.toArray.size its2.toArray.size := Nat.lt_min.mpr ⟨lx, ly⟩
    refine W.goes i s (fun u s2 => ∃ v H', Inv X pins σ H' s2 ∧ RelV v u ∧ (ItzM X.K a b).yld i H v H' ∧ ZmAt z TI TO i1 i2 a b (i + 1) s2.heap ∧ ∀ c ∈ [z, TI, TO, i1, i2], H' c = none) E hi ⟨hz, hI, hO, ⟨h1, p.isList⟩, ⟨h2, p2⟩⟩ fun v h' tk yv st' ko htk => ?_
    obtain ⟨T, u1, u2, rfl, hT, e1, e2, hTt⟩ := yv
    obtain ⟨hz', hI', hO', h1', h2'⟩ := st'
    obtain ⟨q1, g1, r1⟩ := rv.get hx
    obtain ⟨q2, g2, r2⟩ := rv2.get hy
    have f1 : q1 = u1 := by
      have : its[i]? = some u1 := by simpa using e1
      rw [g1] at this
      exact Option.some.inj this
    have f2 : q2 = u2 := by
      have : its2[i]? = some u2 := by simpa using e2
      rw [g2] at this
      exact Option.some.inj this
    subst f1 f2
    have new : ObjOk X.prog X.w (upd H T (.tup [x, y])) h' T (.tup [x, y]) := ⟨by show 2 ≤ sizeLine; decide, [q1, q2], .cons r1 (.cons r2 .nil), hTt⟩
    have I1 : Inv X pins σ (upd H T (.tup [x, y])) { s with heap := h', toks := tk } := I.turnedNew (t' := tk) (ch := [z, TI, TO, i1, i2]) (fun c o hb q => ko c o (fun m => hb (by
      simp only [List.mem_cons, List.not_mem_nil, or_false] at m ⊢
      rcases m with m | m | m | m
      · exact .inl m
      · exact .inr (.inr (.inl m))
      · exact .inr (.inr (.inr (.inl m)))
      · exact .inr (.inr (.inr (.inr m))))) q) hf hT new
    refine ⟨.ref T, _, I1, rfl, ⟨T, x, y, rfl, I.hok.fresh hT, rfl, fun l hl => by rw [I.list_inj hl hqx]; exact hx, fun l hl => by rw [I.tuple_inj hl hqy]; exact hy⟩, ⟨hz', hI', hO', h1'.1, h2'.1⟩, fun c hcm => ?_⟩
    have hl : c < s.heap.objs.size := by
      obtain ⟨_, _, hO0⟩ := hO
      obtain ⟨_, y1, _⟩ := h1
      obtain ⟨_, y2, _⟩ := h2
      simp only [List.mem_cons, List.not_mem_nil, or_false] at hcm
      rcases hcm with rfl | rfl | rfl | rfl | rfl
      · exact Heap.lt_size hz
      · exact Heap.lt_size hI
      · exact Heap.lt_size hO0
      · exact Heap.lt_size y1
      · exact Heap.lt_size y2
    rw [upd_ne (Nat.ne_of_lt (Nat.lt_of_lt_of_le hl hT))]
    exact (hf c hcm).1
  done := by
    intro X hP hw hK hc i pins s σ H E I hf st hg
    subst hP hw hK
    obtain ⟨hz, hI, hO, h1, h2⟩ := st
    obtain ⟨xs, ys, hqx, hqy, hi⟩ := hg
    obtain ⟨its, rv, p, _⟩ := I.list hqx
    obtain ⟨its2, rv2, p2, _⟩ := I.tuple hqy
    have hh : X.A.in1.handled = none := I.ok.hd hc
    have W := GoesN.zip2 (prog := X.prog) (w := X.w) (A := X.A) (elts := elts) (x1 := kk) (pos := tpos) S (Draws.list hh i1 a na its.toArray) (Draws.tuple hh i2 b nb its2.toArray)
    have hi' : i = min its.toArray.size its2.toArray.size := by rw [hi, rv.length, rv2.length]; rfl
    subst hi'
    refine W.stops s (fun s1 => Inv X pins σ H s1) E ⟨hz, hI, hO, ⟨h1, p.isList⟩, ⟨h2, p2⟩⟩ fun h' tk ko htk => ?_
    exact I.turnedL (t' := tk) (ch := [z, TI, TO, i1, i2]) (fun c o hb q => ko c o (fun m => hb (by
      simp only [List.mem_cons, List.not_mem_nil, or_false] at m ⊢
      rcases m with m | m | m | m
      · exact .inl m
      · exact .inr (.inr (.inl m))
      · exact .inr (.inr (.inr (.inl m)))
      · exact .inr (.inr (.inr (.inr m))))) q) hf
  self := fun A i s Q E st h => wpAny_pyIter_zip st.1 h
def iZipM (K : PySem.W.Frag) (ta : TA) : TI := fun σ H R => ta σ H fun vs H1 => ∃ a b xs ys, vs = [.ref a, .ref b] ∧ SqL K H1 a xs ∧ SqT K H1 b ys ∧ R (ItzM K a b) H1
theorem pi_zipM {X : Cx} {e e2 : Expr} {ta : TA} {p pos tpos : Pos} {elts : List Expr} {kk : Nat} (hg : Gl X "zip") (hm : X.mg "zip" = none) (ha : PA X [e, e2] ta)
    (hs : starEach [e, e2] X.env = (false, eval e X.env) :: starEach [e2] X.env := by rfl) (hpl : (backTo pos (starEach [e2] X.env)).any (·.1) = false := by rfl) :
    PI X (.Tuple elts kk tpos) (.Call (.Name "zip" p) [e, e2] [] pos) (iZipM X.K ta) := by
  refine ⟨fun pins s σ H R I h => Call_ (ld_blt I hg hm PyProof.Rows.boot_zip (PyProof.Rows.callWith_type1 (thn (ha.run pos pins s σ H _ I h) fun us s1 ⟨vs, H1, I1, r1, a, b, xs, ys, ex, hqx, hqy, q⟩ => ?_) hs hpl))⟩
  subst ex
  obtain ⟨u1, u2, rfl, ra, rb⟩ := vals2 r1
  cases ra
  cases rb
  obtain ⟨its, rv, p1, _⟩ := I1.list hqx
  obtain ⟨its2, rv2, p2, _⟩ := I1.tuple hqy
  obtain ⟨o2, ho2, _⟩ := id p2
  have la : a < s1.heap.objs.size := p1.lt
  have lb : b < s1.heap.objs.size := Heap.lt_size ho2
  refine zip_begins2 (begins_list a its.toArray) (begins_tuple b its2.toArray) p1.isList p2 fun h' hz hI hO h1 h2 hsz hk => wpAny_pyIter_zip hz ?_
  have I2 : Inv X pins σ H1 { s1 with heap := h' } := I1.kept (t' := s1.toks) hk
  have S := zm_sep la lb
  refine ⟨s1.heap.objs.size + 4, [s1.heap.objs.size + 4, s1.heap.objs.size + 2, s1.heap.objs.size + 3, s1.heap.objs.size, s1.heap.objs.size + 1], _, _, H1, rfl, I2, zm_turn S (Nat.ne_of_lt la) (Nat.ne_of_lt (Nat.lt_add_right 1 lb)), ⟨hz, hI, ⟨_, _, hO⟩, ⟨_, h1, rfl, rfl⟩, ⟨_, h2, rfl, rfl⟩⟩, fun c hcm => ?_, q⟩
  have hle : s1.heap.objs.size ≤ c := by
    simp only [List.mem_cons, List.not_mem_nil, or_false] at hcm
    rcases hcm with rfl | rfl | rfl | rfl | rfl
    · exact Nat.le_add_right _ _
    · exact Nat.le_add_right _ _
    · exact Nat.le_add_right _ _
    · exact Nat.le_refl _
    · exact Nat.le_add_right _ _
  exact I1.fpOk hle (I1.hok.fresh hle)
/-- a loop over it -/
theorem for_zipM {K : PySem.W.Frag} {a b : Addr} {xs ys : List V} {g : TG} {tb : TS} {D : Ends} {σ : L2.St} {H : Hp} (hl : xs.length = ys.length) (Pv : Nat → L2.St → Hp → Prop) (h0 : Pv 0 σ H) (hq : ∀ i σ H, Pv i σ H → SqL K H a xs ∧ SqT K H b ys)
    (hs : ∀ (i : Nat) (x y : V) (T : Addr) (σ : L2.St) (H : Hp), xs[i]? = some x → ys[i]? = some y → Pv i σ H → H T = none → g (.ref T) σ (upd H T (.tup [x, y])) fun σ2 H2 => tb { D with nx := Pv (i + 1), ct := Pv (i + 1), bk := D.nx } σ2 H2) (hd : ∀ σ H, Pv xs.length σ H → D.nx σ H) :
    ∃ W : Nat → Nat → L2.St → Hp → Prop, (∃ m, W 0 m σ H) ∧ ∀ i m σ H, W i m σ H →
      ((ItzM K a b).stop i H ∧ D.nx σ H) ∨ ((ItzM K a b).go i H ∧ ∃ N : L2.St → Hp → Prop, (∀ σ' H', N σ' H' → ∃ m', m' < m ∧ W (i + 1) m' σ' H') ∧ ∀ v H', (ItzM K a b).yld i H v H' → g v σ H' fun σ2 H2 => tb { D with nx := N, ct := N, bk := D.nx } σ2 H2) := by
  refine ⟨fun i m σ H => (m = xs.length - i ∧ i ≤ xs.length) ∧ Pv i σ H, ⟨xs.length, ⟨rfl, Nat.zero_le _⟩, h0⟩, ?_⟩
  rintro i m σ H ⟨⟨rfl, hi⟩, pv⟩
  obtain ⟨qx, qy⟩ := hq i σ H pv
  rcases Nat.lt_or_ge i xs.length with lt | ge
  · refine .inr ⟨⟨xs, ys, _, _, qx, qy, List.getElem?_eq_getElem lt, List.getElem?_eq_getElem (hl ▸ lt)⟩, Pv (i + 1), fun σ' H' p' => ⟨xs.length - (i + 1), by omega, ⟨rfl, lt⟩, p'⟩, ?_⟩
    rintro v H' ⟨T, x, y, rfl, hT, rfl, f1, f2⟩
    exact hs i x y T σ H (f1 xs qx) (f2 ys qy) pv hT
  · have e : i = xs.length := Nat.le_antisymm hi ge
    subst e
    exact .inl ⟨⟨xs, ys, qx, qy, by rw [← hl, Nat.min_self]⟩, hd σ H pv⟩
theorem call_isiK {X : Cx} {K : PySem.W.Frag} (h : X.K = K) : CallR X (.builtin "isinstance") (rIsi' K) := by
  subst h
  exact call_isi'
end Af

set_option Elab.async false
set_option linter.all false
set_option maxRecDepth 100000
set_option maxHeartbeats 4000000
/-! dicts of number: tuple, made by displays and by comprehensions -/
namespace Af
open PySem PySem.Spec PyProof.Rows L2
theorem pairs_go {σ : L2.St} : ∀ (l : List (Nat × Int)) (H : Hp) (Q : List (V × V) → Hp → Prop), (∀ (rows : List (L2.Key × V)) H', Same H H' → Paired (RowV H') rows (l.map fun p => (p.1, [p.2])) → Q (rows.map fun kv => (kV kv.1, kv.2)) H') → tPairs (l.map fun p => (tC (.int ((p.1 : Nat) : Int)), tTup' (tCons (tC (.int p.2)) tNil))) σ H Q
  | [], H, Q, k => k [] H (Same.refl _) .nil
  | p :: r, H, Q, k => ⟨szr, fun t H1 n s h => pairs_go r H1 _ fun rows H' s2 pr => k ((.inl ((p.1 : Nat) : Int), .ref t) :: rows) H' (s.trans s2) (.cons ⟨rfl, t, rfl, s2 _ _ h⟩ pr)⟩
theorem merge_rows : ∀ (rows acc : List (L2.Key × V)), ((acc ++ rows).map (·.1)).Nodup → mergeK acc rows = acc ++ rows
  | [], acc, _ => (List.append_nil acc).symm
  | p :: r, acc, h => by
    show mergeK (putK acc p.1 p.2) r = _
    have e : acc ++ p :: r = (acc ++ [p]) ++ r := by rw [List.append_assoc]; rfl
    have np : p.1 ∉ acc.map (·.1) := fun m => by
      rw [List.map_append, List.nodup_append] at h
      exact h.2.2 _ m _ (by rw [List.map_cons]; exact List.mem_cons_self) rfl
    rw [putK_snoc np, e]
    rw [e] at h
    exact merge_rows r _ h
theorem disp_pat {σ : L2.St} {H : Hp} {Q : VK} (l : List (Nat × Int)) (nd : ((l.map fun p => (p.1, [p.2])).map fun p => (Sum.inl ((p.1 : Nat) : Int) : L2.Key)).Nodup) (ll : l.length ≤ 15) (k : ∀ d H', Same H H' → H d = none → PatV H' d (l.map fun p => (p.1, [p.2])) → Q (.ref d) H') :
    tDisp (l.map fun p => (tC (.int ((p.1 : Nat) : Int)), tTup' (tCons (tC (.int p.2)) tNil))) σ H Q := fun p n => by
  refine pairs_go l (upd H p (.dK [])) _ fun rows H' s pr => ?_
  have hp : H' p = some (.dK []) := s _ _ upd_same
  have rl : rows.length = l.length := by rw [paired_len pr, List.length_map]
  refine ⟨hp, rows, rfl, by omega, ?_⟩
  have s0 : Same H (upd H' p (.dK (mergeK [] rows))) := fun b o e => by
    have nb : b ≠ p := fun z => by rw [z, n] at e; cases e
    rw [upd_ne nb]
    exact s _ _ (by rw [upd_ne nb]; exact e)
  refine k p _ s0 n ⟨⟨rows, ?_, L2.Paired.mapP pr fun a b ⟨e, t, e2, z⟩ => ⟨e, t, e2, ?_⟩⟩⟩
  · rw [upd_same, merge_rows rows [] (by rw [List.nil_append, rows_keys pr]; exact nd)]
    rfl
  · rw [upd_ne (fun w => by rw [w, hp] at z; cases z)]
    exact z
/-- {**d, k: v, ..} of an empty d -/
theorem spread_pat {σ : L2.St} {H : Hp} {Q : VK} {i : Nat} {d : Addr} {trs : List (TE × TE)} {ps : Ptn} (hi : σ[i]? = some (some (.ref d))) (hd : H d = some (.dK [])) (nd : (ps.map fun p => (Sum.inl ((p.1 : Nat) : Int) : L2.Key)).Nodup) (ll : ps.length ≤ 15)
    (hp : ∀ (H1 : Hp) (R : List (V × V) → Hp → Prop), Same H H1 → (∀ (rows : List (L2.Key × V)) H', Same H1 H' → Paired (RowV H') rows ps → R (rows.map fun kv => (kV kv.1, kv.2)) H') → tPairs trs σ H1 R)
    (k : ∀ p H', Same H H' → H p = none → PatV H' p ps → Q (.ref p) H') : tSpread (tVar i) trs σ H Q := fun p n => by
  have dp : d ≠ p := fun e => by rw [e, n] at hd; cases hd
  refine ⟨.ref d, hi, d, [], rfl, dp, (by rw [upd_ne dp]; exact hd), upd_same, by decide, fun p2 n2 => ?_⟩
  have p2p : p2 ≠ p := fun e => by rw [e, upd_same] at n2; cases n2
  rw [upd_ne p2p] at n2
  have s0 : Same H (upd (upd (upd H p (.dK [])) p (.dK [])) p2 (.dK [])) := same_mut (same_mut (same_new n) n) n2
  have e1 : (upd (upd (upd H p (.dK [])) p (.dK [])) p2 (.dK [])) p = some (.dK []) := by rw [upd_ne p2p.symm, upd_same]
  have e2 : (upd (upd (upd H p (.dK [])) p (.dK [])) p2 (.dK [])) p2 = some (.dK []) := upd_same
  refine hp _ _ s0 fun rows H' s pr => ?_
  have rl := paired_len pr
  have m1 : mergeK [] rows = rows := merge_rows rows [] (by rw [List.nil_append, rows_keys pr]; exact nd)
  refine ⟨s _ _ e1, s _ _ e2, rows, rfl, by omega, ?_⟩
  rw [m1, m1]
  refine k p _ (same_mut (same_mut (s0.trans s) n2) n) n ⟨⟨rows, upd_same, L2.Paired.mapP pr fun a b ⟨e, t, q, z⟩ => ⟨e, t, q, ?_⟩⟩⟩
  rw [upd_ne (fun w => by rw [w, s _ _ e1] at z; cases z), upd_ne (fun w => by rw [w, s _ _ e2] at z; cases z)]
  exact z
/-- a dict comprehension over a list that stays -/
theorem dc_lst {K : PySem.W.Frag} {a : Addr} {xs : List V} {g : TG} {tt : TT} {tk tv : TE} {vs : List Nat} {σ : L2.St} {H1 : Hp} {D : Addr} {Qd : Hp → Prop} (Pv : Nat → Hp → Prop) (h0 : Pv 0 (upd H1 D (.dK []))) (hl : ∀ i H, Pv i H → SqL K H a xs)
    (hs : ∀ i x H, xs[i]? = some x → Pv i H → g x (wipe σ vs) H fun σ2 H2 => wipe σ2 vs = wipe σ vs ∧ tt σ2 H2 fun b H3 =>
      if b = true then tk σ2 H3 fun y H4 => tv σ2 H4 fun z H5 => ∃ kvs k, y = kV k ∧ H5 D = some (.dK kvs) ∧ kvs.length < sizeLine ∧ Pv (i + 1) (upd H5 D (.dK (putK kvs k z))) else Pv (i + 1) H3) (hd : ∀ H, Pv xs.length H → Qd H) :
    ∃ W : Nat → Nat → Hp → Prop, (∃ m, W 0 m (upd H1 D (.dK []))) ∧ ∀ i m H, W i m H →
      ((Itl K a).stop i H ∧ Qd H) ∨ ((Itl K a).go i H ∧ ∃ Nx : Hp → Prop, (∀ H', Nx H' → ∃ m', m' < m ∧ W (i + 1) m' H') ∧ ∀ x H', (Itl K a).yld i H x H' → g x (wipe σ vs) H' fun σ2 H2 => wipe σ2 vs = wipe σ vs ∧ tt σ2 H2 fun b H3 =>
        if b = true then tk σ2 H3 fun y H4 => tv σ2 H4 fun z H5 => ∃ kvs k, y = kV k ∧ H5 D = some (.dK kvs) ∧ kvs.length < sizeLine ∧ Nx (upd H5 D (.dK (putK kvs k z))) else Nx H3) := by
  refine ⟨fun i m H => (m = xs.length - i ∧ i ≤ xs.length) ∧ Pv i H, ⟨xs.length, ⟨rfl, Nat.zero_le _⟩, h0⟩, ?_⟩
  rintro i m H ⟨⟨rfl, hi⟩, pv⟩
  have q := hl i H pv
  rcases Nat.lt_or_ge i xs.length with lt | ge
  · refine .inr ⟨⟨xs, _, q, List.getElem?_eq_getElem lt⟩, Pv (i + 1), fun H' p' => ⟨xs.length - (i + 1), by omega, ⟨rfl, lt⟩, p'⟩, ?_⟩
    rintro x H' ⟨rfl, f⟩
    exact hs i x _ (f xs q) pv
  · have e : i = xs.length := Nat.le_antisymm hi ge
    subst e
    exact .inl ⟨⟨xs, q, Nat.le_refl _⟩, hd H pv⟩
end Af

set_option Elab.async false
set_option linter.all false
set_option maxRecDepth 100000
set_option maxHeartbeats 4000000
namespace Af
open PySem L2
abbrev s_cells_of : Stmt := top 47
abbrev N_cells_of : List Str := ["piece", "pattern", "_", "first", "worths", "cell"]
theorem sc_cells_of : FnScope N_cells_of ["piece", "pattern"] (defScope s_cells_of) := ⟨rfl, rfl, rfl, by decide +kernel, rfl, by decide +kernel, by decide +kernel⟩

abbrev s_spoiled_by : Stmt := top 48
abbrev N_spoiled_by : List Str := ["piece", "pattern", "_", "first", "worths", "cell"]
theorem sc_spoiled_by : FnScope N_spoiled_by ["piece", "pattern"] (defScope s_spoiled_by) := ⟨rfl, rfl, rfl, by decide +kernel, rfl, by decide +kernel, by decide +kernel⟩

abbrev s_least_in : Stmt := top 53
abbrev N_least_in : List Str := ["mask"]
theorem sc_least_in : FnScope N_least_in ["mask"] (defScope s_least_in) := ⟨rfl, rfl, rfl, by decide +kernel, rfl, by decide +kernel, by decide +kernel⟩

theorem rows_val {H : Hp} {rows : List (L2.Key × V)} {ps : Ptn} (h : Paired (RowV H) rows ps) (k : Nat) :
    (ps.lookup k = none ∧ valV rows (.inl (k : Int)) = none) ∨ ∃ ws t, ps.lookup k = some ws ∧ valV rows (.inl (k : Int)) = some (.ref t) ∧ H t = some (.tup (ivs ws)) ∧ (k, ws) ∈ ps := by
  induction h with
  | nil => exact .inl ⟨rfl, rfl⟩
  | @cons r p rs ps hr t ih =>
    obtain ⟨e1, t, e2, e3⟩ := hr
    obtain ⟨pk, pw⟩ := p
    by_cases c : pk = k
    · subst c
      refine .inr ⟨pw, t, by rw [List.lookup_cons, beq_self_eq_true], ?_, e3, List.mem_cons_self⟩
      rw [valV_pos (by rw [e1]), e2]
    · have ne : ¬ (Sum.inl (k : Int) : L2.Key) = r.1 := fun e => c (by rw [e1] at e; injection e with e; have e : (k : Int) = (pk : Int) := e; omega)
      rw [valV_neg (by first | exact ne | exact fun e => ne e.symm), List.lookup_cons, show (k == pk) = false by simpa using fun e => c e.symm]
      rcases ih with h | ⟨ws, t, h1, h2, h3, h4⟩
      · exact .inl h
      · exact .inr ⟨ws, t, h1, h2, h3, List.mem_cons_of_mem _ h4⟩
def hasC (pt : Ptn) (c : Nat) : Bool := (pt.lookup c).isSome
def letC (pt : Ptn) (c : Nat) : List Int := (pt.lookup c).getD []
/-- the cells of a pattern that a piece covers; those where its worth may not be -/
def cellsP (pt : Ptn) (f l : Nat) : List Nat := (List.range' f l).filter (hasC pt)
def badP (pt : Ptn) (f : Nat) (ws : List Int) (c : Nat) : Bool := !(letC pt c).contains (ws.getD (c - f) 0)
def spoilP (pt : Ptn) (f : Nat) (ws : List Int) : List Nat := (cellsP pt f ws.length).filter (badP pt f ws)
theorem cellsP_succ (pt : Ptn) (f l : Nat) : cellsP pt f (l + 1) = cellsP pt f l ++ (if hasC pt (f + l) = true then [f + l] else []) := by
  unfold cellsP
  rw [List.range'_concat, List.filter_append, Nat.one_mul]
  congr 1
  by_cases h : hasC pt (f + l) = true
  · rw [if_pos h]; simp [h]
  · rw [if_neg h]; simp [h]
theorem cellsP_len (pt : Ptn) (f l : Nat) : (cellsP pt f l).length ≤ l := by
  have := List.length_filter_le (hasC pt) (List.range' f l)
  rw [List.length_range'] at this
  exact this
theorem cellsP_mem {pt : Ptn} {f l c : Nat} : c ∈ cellsP pt f l ↔ (f ≤ c ∧ c < f + l) ∧ hasC pt c = true := by
  unfold cellsP
  rw [List.mem_filter, List.mem_range'_1]
theorem cellsP_asc (pt : Ptn) (f l : Nat) : (cellsP pt f l).Pairwise (· < ·) := (List.pairwise_lt_range' ..).filter _
theorem spoilP_asc (pt : Ptn) (f : Nat) (ws : List Int) : (spoilP pt f ws).Pairwise (· < ·) := (cellsP_asc pt f ws.length).filter _
def sp_cells_of : Sp := fun vs H Q _ => ∃ (x : V) (a : Addr) (ix : Int) (f : Nat) (ws : List Int) (pt : Ptn), vs = [x, .ref a] ∧ PieceA H x (ix, ((f : Nat), ws)) ∧ PatV H a pt ∧ ws.length ≤ 100 ∧ f ≤ 1000 ∧ ∀ l H', Same H H' → H l = none → H' l = some (.lst (nvs (cellsP pt f ws.length))) → Q (.ref l) H'
def sp_spoiled_by : Sp := fun vs H Q _ => ∃ (x : V) (a : Addr) (ix : Int) (f : Nat) (ws : List Int) (pt : Ptn), vs = [x, .ref a] ∧ PieceA H x (ix, ((f : Nat), ws)) ∧ PatV H a pt ∧ ws.length ≤ 100 ∧ f ≤ 1000 ∧ ∀ l H', Same H H' → H l = none → H' l = some (.lst (nvs (spoilP pt f ws))) → Q (.ref l) H'
def sp_least : Sp := fun vs H Q _ => ∃ m : Nat, vs = [.int (m : Nat)] ∧ Q (.int (leastI m)) H
section
variable {P : Program} {w : World} {K : PySem.W.Frag} {mg : Str → Option Value} {base : Heap}
theorem ok_least {f : Addr} {fd : FuncData} (F : Fun K "_least_in" "_least_in" s_least_in f fd) (T : Txt mg) : FnOk P w K mg base CX0 1 f fd ["mask"] sp_least := by
  refine F.ok sc_least_in (fun vs H Q E h => ?_) (fun cdv A outer s H vs Q E hr h => ?_)
  · obtain ⟨_, rfl, _⟩ := h
    rfl
  obtain ⟨m, rfl, k⟩ := h
  refine ⟨_, (pss_one (ps_ret (pe_op op_sub (pe_bits (pe_op op_and (pv 0) (pe_un un_neg (pv 0)))) pe_int))), ?_⟩
  exact ⟨_, rfl, _, rfl, _, rfl, _, _, rfl, rfl, _, rfl, _, _, rfl, rfl, k⟩
theorem ok_cells_of {f : Addr} {fd : FuncData} (F : Fun K "_cells_of" "_cells_of" s_cells_of f fd) (T : Txt mg) : FnOk P w K mg base CX0 1 f fd ["piece", "pattern"] sp_cells_of := by
  refine F.ok sc_cells_of (fun vs H Q E h => ?_) (fun cdv A outer s H vs Q E hr h => ?_)
  · obtain ⟨_, _, _, _, _, _, rfl, _⟩ := h
    rfl
  obtain ⟨x, a, ix, f, ws, pt, rfl, ⟨t, b, rfl, ht, hb⟩, hpv, wl, fl, k⟩ := h
  obtain ⟨rows, ha, hp⟩ := hpv.ex
  have hb : H b = some (.tup (ivs ws)) := hb
  have ht : H t = some (.tup [.int ix, .int (f : Nat), .ref b]) := ht
  refine ⟨_, (pss_cons (ps_asg (pv 0) (pg_tup rfl (pgs_cons (pg_name (i := 2) sc_cells_of.nd rfl (Or.inl rfl)) (pgs_cons (pg_name (i := 3) sc_cells_of.nd rfl (Or.inl rfl)) (pgs_cons (pg_name (i := 4) sc_cells_of.nd rfl (Or.inl rfl)) pgs_nil)))))
    (pss_one (ps_ret (pe_lc (own := [("cell", 5)]) (g := (gName 5)) rfl sc_cells_of.nd (pi_range2 rfl T.range (pa_cons (pv 3) (pa_cons (pe_op op_add (pv 3) (pe_callB call_len' (by rfl) T.len (by decide +kernel) (pa_cons (pv 4) pa_nil))) pa_nil))) (blkOk_by (own := [("cell", 5)]) (N := N_cells_of) (sc := defScope s_cells_of) (by decide +kernel)) (fun _ _ _ _ _ => pg_name (i := 5) sc_cells_of.nd rfl (Or.inl rfl)) (fun _ _ _ _ _ => (pts_one (pt_cmp (pc_din hr.u1 (pv 5) (pv 1))))) (fun _ _ _ _ _ => (pv 5)))))), ?_⟩
  refine ⟨_, rfl, t, _, rfl, SqT.of ht, rfl, _, _, rfl, _, _, rfl, _, _, rfl, rfl, ?_⟩
  refine ⟨_, rfl, _, rfl, _, rfl, b, _, rfl, .inr hb, _, _, rfl, rfl, _, _, rfl, by rw [ivs_len]; omega, fun D hD => lc_range (lo := (f : Nat)) (fun i H' => Same H H' ∧ H' D = some (.lst (nvs (cellsP pt f i)))) ?_ ?_ ?_⟩
  · exact ⟨same_new hD, upd_same⟩
  · rintro i H' hi ⟨s1, h1⟩
    have e : ((f : Nat) : Int) + (i : Int) = ((f + i : Nat) : Int) := rfl
    have cl := cellsP_len pt f i
    rw [ivs_len] at hi
    refine ⟨rfl, _, rfl, _, rfl, a, valV rows (.inl ((f + i : Nat) : Int)), rfl, .inl ⟨rows, .inl ((f + i : Nat) : Int), .inl (s1 _ _ ha), rfl, rfl⟩, _, rfl, ?_⟩
    have cs := cellsP_succ pt f i
    rcases rows_val hp (f + i) with ⟨n1, n2⟩ | ⟨ws', t', n1, n2, _, _⟩
    · have hc : hasC pt (f + i) = false := by unfold hasC; rw [n1]; rfl
      rw [hc, if_neg (by decide), List.append_nil] at cs
      rw [n2]
      exact ⟨s1, by rw [cs]; exact h1⟩
    · have hc : hasC pt (f + i) = true := by unfold hasC; rw [n1]; rfl
      rw [hc, if_pos rfl] at cs
      rw [n2]
      refine ⟨_, rfl, _, h1, szl (by rw [nvs_len]; omega), same_mut s1 hD, ?_⟩
      rw [upd_same, cs, nvs_app]
      rfl
  · rintro H1 ⟨s1, h1⟩
    refine k D H1 s1 hD ?_
    rw [h1]
    congr 4
    rw [ivs_len]
    omega
theorem ok_spoiled_by {f : Addr} {fd : FuncData} (F : Fun K "_spoiled_by" "_spoiled_by" s_spoiled_by f fd) (T : Txt mg) (c_cells_of : Cal P w K mg base 1 "_cells_of" ["piece", "pattern"] sp_cells_of) : FnOk P w K mg base CX0 2 f fd ["piece", "pattern"] sp_spoiled_by := by
  refine F.ok sc_spoiled_by (fun vs H Q E h => ?_) (fun cdv A outer s H vs Q E hr h => ?_)
  · obtain ⟨_, _, _, _, _, _, rfl, _⟩ := h
    rfl
  obtain ⟨x, a, ix, f, ws, pt, rfl, hpc, hpv, wl, fl, k⟩ := h
  obtain ⟨t, b, rfl, ht, hb⟩ := hpc
  obtain ⟨rows, ha, hp⟩ := hpv.ex
  have hb : H b = some (.tup (ivs ws)) := hb
  have ht : H t = some (.tup [.int ix, .int (f : Nat), .ref b]) := ht
  refine ⟨_, (pss_cons (ps_asg (pv 0) (pg_tup rfl (pgs_cons (pg_name (i := 2) sc_spoiled_by.nd rfl (Or.inl rfl)) (pgs_cons (pg_name (i := 3) sc_spoiled_by.nd rfl (Or.inr rfl)) (pgs_cons (pg_name (i := 4) sc_spoiled_by.nd rfl (Or.inr rfl)) pgs_nil)))))
    (pss_one (ps_ret (pe_lc (own := [("cell", 5)]) (g := (gName 5)) rfl sc_spoiled_by.nd (pi_list (pe_cal c_cells_of hr (pa_cons (pv 0) (pa_cons (pv 1) pa_nil)))) (blkOk_by (own := [("cell", 5)]) (N := N_spoiled_by) (sc := defScope s_spoiled_by) (by decide +kernel)) (fun _ _ _ _ _ => pg_name (i := 5) sc_spoiled_by.nd rfl (Or.inl rfl)) (fun _ _ _ _ _ => (pts_one (pt_cmpR (op_notInK (K := K) rfl) (pe_ix ix_seq' (pv 4) (pe_op op_sub (pv 5) (pv 3)) (fun _ _ => rfl)) (pe_dget hr.u1 (pv 1) (pv 5) (fun _ _ => rfl)) (by rfl)))) (fun _ _ _ _ _ => (pv 5)))))), ?_⟩
  refine ⟨_, rfl, t, _, rfl, SqT.of ht, rfl, _, _, rfl, _, _, rfl, _, _, rfl, rfl, ?_⟩
  have cl := cellsP_len pt f ws.length
  refine ⟨_, rfl, _, rfl, .ref t, a, ix, f, ws, pt, rfl, ⟨t, b, rfl, ht, hb⟩, hpv, wl, fl, fun l1 H1 s1 n1 h1 => ⟨l1, rfl, ⟨_, SqL.of h1⟩, fun D hD => lc_list (K := K) (a := l1) (xs := nvs (cellsP pt f ws.length)) (fun i H' => Same H1 H' ∧ H' D = some (.lst (nvs (((cellsP pt f ws.length).take i).filter (badP pt f ws))))) ?_ ?_ ?_ ?_⟩⟩
  · exact ⟨same_new hD, upd_same⟩
  · rintro i H' _ ⟨s2, _⟩
    exact SqL.of (s2 _ _ h1)
  · rintro i y H' hy ⟨s2, h2⟩
    obtain ⟨il, rfl⟩ := nvs_lt hy
    have S := s1.trans s2
    obtain ⟨⟨g1, g2⟩, g3⟩ := cellsP_mem.mp (List.getElem_mem il)
    have fll := List.length_filter_le (badP pt f ws) ((cellsP pt f ws.length).take i)
    rw [List.length_take] at fll
    have at0 : atI (ivs ws) ((((cellsP pt f ws.length)[i] : Nat) : Int) - ((f : Nat) : Int)) = some (.int (ws.getD ((cellsP pt f ws.length)[i] - f) 0)) := by
      have e : (((cellsP pt f ws.length)[i] : Nat) : Int) - ((f : Nat) : Int) = (((cellsP pt f ws.length)[i] - f : Nat) : Int) := by omega
      rw [e]
      have jl : (cellsP pt f ws.length)[i] - f < ws.length := by omega
      refine atI_nat ?_
      rw [ivs_get jl, List.getD_eq_getElem?_getD, List.getElem?_eq_getElem jl]
      rfl
    rcases rows_val hp (cellsP pt f ws.length)[i] with ⟨n1, n2⟩ | ⟨ws', t', n1, n2, n3, _⟩
    · unfold hasC at g3
      rw [n1] at g3
      cases g3
    have lc : letC pt (cellsP pt f ws.length)[i] = ws' := by unfold letC; rw [n1]; rfl
    have tk : ((cellsP pt f ws.length).take (i + 1)).filter (badP pt f ws) = ((cellsP pt f ws.length).take i).filter (badP pt f ws) ++ (if badP pt f ws (cellsP pt f ws.length)[i] = true then [(cellsP pt f ws.length)[i]] else []) := by
      rw [List.take_add_one, List.getElem?_eq_getElem il, List.filter_append]
      congr 1
      by_cases c : badP pt f ws (cellsP pt f ws.length)[i] = true
      · rw [if_pos c]; simp [c]
      · rw [if_neg c]; simp [c]
    refine ⟨rfl, _, rfl, _, rfl, _, rfl, _, _, rfl, rfl, b, _, _, _, rfl, rfl, .inr (S _ _ hb), at0, ?_⟩
    refine ⟨_, rfl, _, rfl, a, .ref t', rfl, .inl ⟨rows, .inl (((cellsP pt f ws.length)[i] : Nat) : Int), .inl (S _ _ ha), rfl, n2.symm⟩, ?_⟩
    refine ⟨t', _, rfl, .inr (SqT.of (S _ _ n3)), rfl, flat_ivs _, _, rfl, ?_⟩
    show if (!inV (.int (ws.getD ((cellsP pt f ws.length)[i] - f) 0)) (ivs ws')) = true then _ else _
    have e : (!inV (.int (ws.getD ((cellsP pt f ws.length)[i] - f) 0)) (ivs ws')) = badP pt f ws (cellsP pt f ws.length)[i] := by
      rw [in_ivs]
      unfold badP
      rw [lc]
    rw [e]
    cases c : badP pt f ws (cellsP pt f ws.length)[i] with
    | true =>
      rw [c, if_pos rfl] at tk
      refine ⟨_, rfl, _, h2, szl (by rw [nvs_len]; omega), same_mut s2 hD, ?_⟩
      rw [upd_same, tk, nvs_app]
      rfl
    | false =>
      rw [c, if_neg (by decide), List.append_nil] at tk
      exact ⟨s2, by rw [tk]; exact h2⟩
  · rintro H2 ⟨s2, h2⟩
    rw [nvs_len, List.take_length] at h2
    exact k D H2 (s1.trans s2) (s1.free hD) h2
end
end Af

set_option Elab.async false
set_option linter.all false
set_option maxRecDepth 100000
set_option maxHeartbeats 4000000
namespace Af
open PySem L2
abbrev s_place : Stmt := top 52
abbrev N_place : List Str := ["hunt", "epoch", "unsettled", "placed", "left", "many", "waiting", "piece"]
theorem sc_place : FnScope N_place ["hunt", "epoch", "unsettled"] (defScope s_place) := ⟨rfl, rfl, rfl, by decide +kernel, rfl, by decide +kernel, by decide +kernel⟩

/-- what a hunt holds -/
structure Hd where
  asked : Nat
  first : Nat
  ts : List Nat
  ss : List Nat
  ls : List Nat
  cl : List Nat
  es : List Int
  ms : List (List Nat)
def HN : List Str := ["asked", "touched", "spoiled", "spoiled_first", "own_epochs", "claimed", "later", "members"]
structure FldH (fs : List (Str × V)) (v1 v2 v3 v4 v5 v6 v7 v8 : V) : Prop where
  f1 : fs.lookup ("asked" : Str) = some v1
  f2 : fs.lookup ("touched" : Str) = some v2
  f3 : fs.lookup ("spoiled" : Str) = some v3
  f4 : fs.lookup ("spoiled_first" : Str) = some v4
  f5 : fs.lookup ("own_epochs" : Str) = some v5
  f6 : fs.lookup ("claimed" : Str) = some v6
  f7 : fs.lookup ("later" : Str) = some v7
  f8 : fs.lookup ("members" : Str) = some v8
  no : fs.lookup ("is_sure" : Str) = none
def RefL (H : Hp) (v : V) (l : List Nat) : Prop := ∃ x, v = .ref x ∧ H x = some (.lst (nvs l))
structure HuntV (C : Addr) (H : Hp) (v : V) (h : Hd) : Prop where
  ex : ∃ a dx fs ta sa ea ca la ma mls, v = .ref a ∧ H a = some (.ins C dx fs) ∧ FldH fs (.int (h.asked : Nat)) (.ref ta) (.ref sa) (.int (h.first : Nat)) (.ref ea) (.ref ca) (.ref la) (.ref ma) ∧
    H ta = some (.lst (nvs h.ts)) ∧ H sa = some (.lst (nvs h.ss)) ∧ H ea = some (.lst (ivs h.es)) ∧ H ca = some (.lst (nvs h.cl)) ∧ H la = some (.lst (nvs h.ls)) ∧ H ma = some (.lst mls) ∧ Paired (RefL H) mls h.ms
theorem HuntV.same {C : Addr} {H H' : Hp} {v : V} {h : Hd} (z : HuntV C H v h) (s : Same H H') : HuntV C H' v h := by
  obtain ⟨a, dx, fs, ta, sa, ea, ca, la, ma, mls, e, h1, h2, h3, h4, h5, h6, h7, h8, h9⟩ := z.ex
  exact ⟨a, dx, fs, ta, sa, ea, ca, la, ma, mls, e, s _ _ h1, h2, s _ _ h3, s _ _ h4, s _ _ h5, s _ _ h6, s _ _ h7, s _ _ h8, L2.Paired.mapP h9 fun _ _ ⟨x, e, z⟩ => ⟨x, e, s _ _ z⟩⟩
/-- a hunt over so many pieces -/
structure OkH (n : Nat) (h : Hd) : Prop where
  n40 : n ≤ 40
  tl : h.ts.length = n
  sl : h.ss.length = n
  ll : h.ls.length = n
  el : h.es.length = n
  cl : h.cl.length ≤ 60
  mb : ∀ l ∈ h.ms, ∀ p ∈ l, p < n
  ma : ∀ l ∈ h.ms, l.Pairwise (· < ·)
def memF (h : Hd) (k : Nat) : List Nat := h.ms.getD k []
def bitsL (l : List Nat) : Nat := (l.map (2 ^ ·)).sum
def stgH (h : Hd) (now un : Nat) : List Nat × List Nat × Nat := stg (gM h.ss) (gM h.ts) (gM h.ls) (memF h) (fun k => bitsL (memF h k)) now un
def sp_maskN : Sp := fun vs H Q _ => ∃ (a : Addr) (ps : List Nat), vs = [.ref a] ∧ H a = some (.lst (nvs ps)) ∧ ps.Nodup ∧ (∀ p ∈ ps, p < 64) ∧ ps.length ≤ 64 ∧ ∀ H', Same H H' → Q (.int (bitsL ps : Nat)) H'
def sp_place (C : Addr) : Sp := fun vs H Q _ => ∃ (x : V) (h : Hd) (n now un : Nat), vs = [x, .int (now : Nat), .int (un : Nat)] ∧ HuntV C H x h ∧ OkH n h ∧ now < h.ms.length ∧ ∀ t pa la H', Same H H' → H pa = none → H la = none → H' t = some (.tup [.ref pa, .ref la, .int ((stgH h now un).2.2 : Nat)]) → H' pa = some (.lst (nvs (stgH h now un).1)) → H' la = some (.lst (nvs (stgH h now un).2.1)) → Q (.ref t) H'
theorem iteT' {c : Bool} {p q : Prop} (h : c = true) (k : p) : if c = true then p else q := by rw [if_pos h]; exact k
theorem iteF' {c : Bool} {p q : Prop} (h : c = false) (k : q) : if c = true then p else q := by rw [if_neg (by rw [h]; decide)]; exact k
theorem passF_cons (sp to la : Nat → Nat) (p : Nat) (r pl : List Nat) (wt un : Nat) : passF sp to la (p :: r) pl wt un = if canP sp la wt un p = true then passF sp to la r (pl ++ [p]) (dif wt (2 ^ p)) (dif un (to p)) else passF sp to la r pl wt un := rfl
theorem passF_app (sp to la : Nat → Nat) : ∀ (a b pl : List Nat) (wt un : Nat), passF sp to la (a ++ b) pl wt un = passF sp to la b (passF sp to la a pl wt un).1 (passF sp to la a pl wt un).2.1 (passF sp to la a pl wt un).2.2
  | [], b, pl, wt, un => rfl
  | p :: a, b, pl, wt, un => by
    rw [List.cons_append, passF_cons, passF_cons]
    by_cases c : canP sp la wt un p = true
    · rw [if_pos c, if_pos c]
      exact passF_app sp to la a b _ _ _
    · rw [if_neg c, if_neg c]
      exact passF_app sp to la a b _ _ _
theorem passF_one (sp to la : Nat → Nat) (p : Nat) (pl : List Nat) (wt un : Nat) : passF sp to la [p] pl wt un = if canP sp la wt un p = true then (pl ++ [p], dif wt (2 ^ p), dif un (to p)) else (pl, wt, un) := rfl
theorem bitsL_bit {l : List Nat} (h : l.Nodup) (j : Nat) : (bitsL l).testBit j = true ↔ j ∈ l := by
  unfold bitsL
  rw [sum_bitsN h, List.contains_iff_mem]
section
variable {P : Program} {w : World} {K : PySem.W.Frag} {mg : Str → Option Value} {base : Heap}
theorem ok_maskN {f : Addr} {fd : FuncData} (F : Fun K "mask_of" "mask_of" s_mask_of f fd) (T : Txt mg) (t_sum : mg "sum" = none) : FnOk P w K mg base CX0 1 f fd ["members"] sp_maskN := by
  refine F.ok sc_mask_of (fun vs H Q E h => ?_) (fun cdv A outer s H vs Q E hr h => ?_)
  · obtain ⟨_, _, rfl, _⟩ := h
    rfl
  obtain ⟨a, ps, rfl, ha, nd, b64, pl, k⟩ := h
  refine ⟨_, (pss_one (ps_ret (pe_callB (cr_sum rfl) (by rfl) t_sum (by decide +kernel) (pa_cons (pe_lc (own := [("member", 1)]) (g := (gName 1)) (tt := tYes) rfl sc_mask_of.nd (pi_list (pv 0)) (blkOk_by (own := [("member", 1)]) (N := N_mask_of) (sc := defScope s_mask_of) (by decide +kernel)) (fun _ _ _ _ _ => pg_name (i := 1) sc_mask_of.nd rfl (Or.inl rfl)) (fun _ _ _ _ _ => pts_nil) (fun _ _ _ _ _ => (pe_op op_shl pe_int (pv 1)))) pa_nil)))), ?_⟩
  refine ⟨_, rfl, a, rfl, ⟨_, SqL.of ha⟩, fun D hD => lc_list (K := K) (a := a) (xs := nvs ps) (fun i H' => Same H H' ∧ H' D = some (.lst (nvs ((ps.map (2 ^ ·)).take i)))) ?_ ?_ ?_ ?_⟩
  · exact ⟨same_new hD, upd_same⟩
  · rintro i H' _ ⟨s1, _⟩
    exact SqL.of (s1 _ _ ha)
  · rintro i y H' hy ⟨s1, h1⟩
    obtain ⟨il, rfl⟩ := nvs_lt hy
    have hb := b64 _ (List.getElem_mem il)
    refine ⟨rfl, _, rfl, _, _, rfl, rfl, ⟨by omega, by omega, by decide⟩, _, h1, szl (by rw [nvs_len, List.length_take, List.length_map]; omega), same_mut s1 hD, ?_⟩
    rw [upd_same, List.take_add_one, List.getElem?_map, List.getElem?_eq_getElem il]
    show some (HO.lst (_ ++ [V.int ((1 : Int) * 2 ^ (((ps[i] : Nat) : Int)).toNat)])) = some (HO.lst (nvs (_ ++ [2 ^ ps[i]])))
    rw [nvs_snoc, shl_one]
  · rintro H1 ⟨s1, h1⟩
    rw [List.take_of_length_le (by rw [nvs_len, List.length_map]; exact Nat.le_refl _)] at h1
    refine ⟨D, (ps.map (2 ^ ·)).map fun p => ((p : Nat) : Int), rfl, SqL.of h1, ?_⟩
    have e : ∀ l : List Nat, (l.map fun p => ((p : Nat) : Int)).sum = ((l.sum : Nat) : Int) := fun l => by
      induction l with
      | nil => rfl
      | cons x l ih =>
        rw [List.map_cons, List.sum_cons, List.sum_cons, ih]
        omega
    rw [e]
    exact k H1 s1
theorem weak_mask {f : Addr} {fd : FuncData} (F : FnOk P w K mg base CX0 1 f fd ["members"] sp_maskN) : FnOk P w K mg base CX0 1 f fd ["members"] sp_mask := F.imp fun vs H Q E h => by
  obtain ⟨a, ps, e, ha, asc, b64, pl, k⟩ := h
  exact ⟨a, ps, e, ha, asc.imp fun h => Nat.ne_of_lt h, b64, pl, fun H' s' => k _ H' s' fun j => sum_bitsN (asc.imp fun h => Nat.ne_of_lt h) j⟩
theorem ok_place {f C : Addr} {fd : FuncData} (F : Fun K "_place" "_place" s_place f fd) (T : Txt mg) (TH : ObjC K mg "Hunt" C HN) (c_mask_of : Cal P w K mg base 1 "mask_of" ["members"] sp_maskN) (c_is_in : Cal P w K mg base 1 "is_in" ["member", "mask"] sp_is_in) : FnOk P w K mg base CX0 2 f fd ["hunt", "epoch", "unsettled"] (sp_place C) := by
  refine F.ok sc_place (fun vs H Q E h => ?_) (fun cdv A outer s H vs Q E hr h => ?_)
  · obtain ⟨_, _, _, _, _, rfl, _⟩ := h
    rfl
  obtain ⟨x, h, n, now, un, rfl, hv, ok, nl, k⟩ := h
  refine ⟨_, (pss_cons (ps_par3 (i := 3) (j := 4) (l := 5) rfl sc_place.nd rfl rfl rfl (by decide) (by decide) (by decide) rfl rfl rfl (pa_cons (pe_lst' pa_nil) (pa_cons (pe_ix ix_seq' (pe_fld (pv 0) rfl) (pv 1) (fun _ _ => rfl)) (pa_cons (pe_un un_neg pe_int) pa_nil))) (by rfl))
    (pss_cons (ps_set (i := 6) sc_place.nd rfl (Or.inr rfl) (pe_cal c_mask_of hr (pa_cons (pv 4) pa_nil)))
    (pss_cons (ps_while PassesOwn.never (pt_cmpR op_ne (pe_callB call_len' (by rfl) T.len (by decide +kernel) (pa_cons (pv 3) pa_nil)) (pv 5) (nomark _))
      (pss_cons (ps_set (i := 5) sc_place.nd rfl (Or.inl rfl) (pe_callB call_len' (by rfl) T.len (by decide +kernel) (pa_cons (pv 3) pa_nil)))
    (pss_cons (ps_for PassesOwn.never rfl (pi_list (pv 4)) (pg_name (i := 7) sc_place.nd rfl (Or.inl rfl))
      (pss_one (ps_if (PW.pt (pw_and (pt_not (pt_truth (pe_op op_and (pe_ix ix_seq' (pe_fld (pv 0) rfl) (pv 7) (fun _ _ => rfl)) (pv 2)) (by intro _; rfl))) (pw_and1 (pt_not (pt_truth (pe_op op_and (pe_ix ix_seq' (pe_fld (pv 0) rfl) (pv 7) (fun _ _ => rfl)) (pv 6)) (by intro _; rfl))))))
      (pss_cons (ps_expr (pe_bm PySem.F.plainAttrs_list PySem.F.slot_list_append PySem.F.type_list_append mt_append (pv 3) (pa_cons (pv 7) pa_nil)))
    (pss_cons (ps_aug (i := 6) sc_place.nd rfl (Or.inr rfl) (pe_un un_inv (pe_op op_shl pe_int (pv 7))) ip_and)
    (pss_one (ps_aug (i := 2) sc_place.nd rfl (Or.inl rfl) (pe_un un_inv (pe_ix ix_seq' (pe_fld (pv 0) rfl) (pv 7) (fun _ _ => rfl))) ip_and))))
      pss_nil)))
    (pss_one (ps_setLc (i := 4) (own := [("piece", 7)]) (g := (gName 7)) rfl sc_place.nd rfl rfl (sw_true rfl rfl rfl (by decide +kernel)) (pi_list (pv 4)) (blkOk_by (own := [("piece", 7)]) (N := N_place) (sc := defScope s_place) (by decide +kernel)) (fun _ _ _ _ _ => pg_name (i := 7) sc_place.nd rfl (Or.inl rfl)) (fun _ _ _ _ _ => (pts_one (pt_val (pe_cal c_is_in hr (pa_cons (pv 7) (pa_cons (pv 6) pa_nil)))))) (fun _ _ _ _ _ => (pv 7)))))))
    (pss_one (ps_ret (pe_tup' (pa_cons (pv 3) (pa_cons (pv 4) (pa_cons (pv 2) pa_nil))))))))), ?_⟩
  obtain ⟨a, dx, fs, ta, sa, ea, ca, la, ma, mls, rfl, ha, fl, hts, hss, hes, hcl, hls, hms, hm⟩ := hv.ex
  have ml := paired_len hm
  have nml : now < mls.length := by omega
  obtain ⟨L, hL, lx, ex, hlx⟩ := paired_get hm (List.getElem?_eq_getElem nml)
  have nf : ∀ f ∈ HN, NoAttr K C f := TH.no
  have eL : memF h now = L := by unfold memF; rw [List.getD_eq_getElem?_getD, hL]; rfl
  have Lm : L ∈ h.ms := List.mem_of_getElem? hL
  have Lb := ok.mb L Lm
  have La := ok.ma L Lm
  have Ln : L.Nodup := La.imp fun h => Nat.ne_of_lt h
  have n40 := ok.n40
  have Ll : L.length ≤ 40 := by
    have := nodup_le (b := List.range n) Ln fun p hp => List.mem_range.mpr (Lb p hp)
    rw [List.length_range] at this
    omega
  have tl := ok.tl
  have sl := ok.sl
  have ll := ok.ll
  refine ⟨szr, fun pa H1 n1 s1 h1 => ⟨_, rfl, a, C, dx, fs, _, rfl, s1 _ _ ha, TH.cl, nf _ (by unfold HN; simp), fl.f8, _, rfl, ma, _, _, _, rfl, rfl, .inl (s1 _ _ hms), atI_nat (List.getElem?_eq_getElem nml), _, rfl, _, _, _, rfl, ?_⟩⟩
  rw [ex]
  refine ⟨_, rfl, lx, L, rfl, s1 _ _ hlx, Ln, fun p hp => by have := Lb p hp; omega, by omega, fun H2 s2 => ?_⟩
  have S2 := s1.trans s2
  have h1' : H2 pa = some (.lst (nvs [])) := s2 _ _ h1
  have hnb : ∀ pl : List Nat, pl.Nodup → (∀ p ∈ pl, p ∈ L) → pl.length ≤ 40 := fun pl nd sub => Nat.le_trans (nodup_le nd sub) Ll
  refine ⟨fun m σ' H' => ∃ (pl lf : List Nat) (wt un' : Nat) (many : Int) (lb : Addr) (v7 : Option V), pa ≠ lb ∧ σ' = [some (.ref a), some (.int (now : Nat)), some (.int (un' : Nat)), some (.ref pa), some (.ref lb), some (.int many), some (.int (wt : Nat)), v7] ∧ Same H H' ∧ H' pa = some (.lst (nvs pl)) ∧ H' lb = some (.lst (nvs lf)) ∧
    Plc (gM h.ss) (gM h.ts) (gM h.ls) L un pl wt un' ∧ lf.Nodup ∧ (∀ j, j ∈ lf ↔ j ∈ L ∧ j ∉ pl) ∧ ((many ≠ (pl.length : Int) ∧ ∃ k, m = k + 1 ∧ L.length + 1 ≤ (k + 1) + pl.length ∧ placeF (gM h.ss) (gM h.ts) (gM h.ls) (k + 1) lf pl wt un' = stgH h now un) ∨ (many = (pl.length : Int) ∧ (pl, lf, un') = stgH h now un ∧ H lb = none)), ?_, ?_⟩
  · refine ⟨L.length + 1, [], L, bitsL L, un, -1, lx, none, ne_of_none hlx n1 |>.symm, rfl, S2, h1', s2 _ _ (s1 _ _ hlx), Plc.start (bitsL_bit Ln), Ln, fun j => by simp, .inl ⟨by simp, L.length, rfl, by simp, ?_⟩⟩
    show _ = placeF _ _ _ ((memF h now).length + 1) (memF h now) [] (bitsL (memF h now)) un
    rw [eL]
  · rintro m σ' H3 ⟨pl, lf, wt, un', many, lb, v7, pn, rfl, s3, hpa, hlb, pc, lnd, lfm, st⟩
    have pll := hnb pl pc.nd pc.sub
    have lfl := hnb lf lnd fun p hp => ((lfm p).mp hp).1
    refine ⟨_, rfl, pa, _, rfl, .inl hpa, _, rfl, rfl, ?_⟩
    by_cases c : many = (pl.length : Int)
    · have st := st.resolve_left fun z => z.1 c
      rw [show (!decide (V.int ((nvs pl).length : Nat) = V.int many)) = false from by rw [c, nvs_len]; simp]
      refine ⟨_, rfl, iteF ?_⟩
      have e1 : (stgH h now un).1 = pl := by rw [← st.2.1]
      have e2 : (stgH h now un).2.1 = lf := by rw [← st.2.1]
      have e3 : (stgH h now un).2.2 = un' := by rw [← st.2.1]
      refine ⟨_, rfl, _, rfl, _, rfl, szr, fun t H4 n4 s4 h4 => k t pa lb H4 (s3.trans s4) n1 st.2.2 ?_ ?_ ?_⟩
      · rw [e3]; exact h4
      · rw [e1]; exact s4 _ _ hpa
      · rw [e2]; exact s4 _ _ hlb
    obtain ⟨_, kf, em, kfl, ef⟩ := st.resolve_right fun z => c z.1
    subst em
    rw [show (!decide (V.int ((nvs pl).length : Nat) = V.int many)) = true from by rw [nvs_len]; simp; exact fun z => c z.symm]
    refine ⟨_, rfl, iteT ⟨_, fun σ' H' q => q, ?_⟩⟩
    refine ⟨_, rfl, pa, _, rfl, .inl hpa, ?_⟩
    rw [nvs_len]
    refine ⟨_, rfl, lb, rfl, ⟨_, SqL.of hlb⟩, for_list (K := K) (a := lb) (xs := nvs lf) (fun i σ' H' => ∃ v7, σ' = [some (.ref a), some (.int (now : Nat)), some (.int ((passF (gM h.ss) (gM h.ts) (gM h.ls) (lf.take i) pl wt un').2.2 : Nat)), some (.ref pa), some (.ref lb), some (.int (pl.length : Nat)), some (.int ((passF (gM h.ss) (gM h.ts) (gM h.ls) (lf.take i) pl wt un').2.1 : Nat)), v7] ∧ Same H H' ∧
      H' pa = some (.lst (nvs (passF (gM h.ss) (gM h.ts) (gM h.ls) (lf.take i) pl wt un').1)) ∧ H' lb = some (.lst (nvs lf))) ?_ ?_ ?_ ?_⟩
    · exact ⟨_, rfl, s3, hpa, hlb⟩
    · rintro i σ' H' _ ⟨v7, rfl, _, _, z⟩
      exact SqL.of z
    · rintro i y σ' H4 hy ⟨v7, rfl, s4, hpa4, hlb4⟩
      obtain ⟨il, rfl⟩ := nvs_lt hy
      have tk : passF (gM h.ss) (gM h.ts) (gM h.ls) (lf.take (i + 1)) pl wt un' = passF (gM h.ss) (gM h.ts) (gM h.ls) [lf[i]] (passF (gM h.ss) (gM h.ts) (gM h.ls) (lf.take i) pl wt un').1 (passF (gM h.ss) (gM h.ts) (gM h.ls) (lf.take i) pl wt un').2.1 (passF (gM h.ss) (gM h.ts) (gM h.ls) (lf.take i) pl wt un').2.2 := by
        rw [List.take_add_one, List.getElem?_eq_getElem il, ← passF_app]
        rfl
      have pi := pass_ok (lf.take i) pl wt un' pc (lnd.sublist (List.take_sublist _ _)) fun p hp => (lfm p).mp (List.mem_of_mem_take hp)
      have pil := hnb _ pi.nd pi.sub
      have pn0 := Lb lf[i] ((lfm lf[i]).mp (List.getElem_mem il)).1
      rw [tk]
      generalize passF (gM h.ss) (gM h.ts) (gM h.ls) (lf.take i) pl wt un' = st at hpa4 pil tk ⊢
      obtain ⟨pl1, wt1, un1⟩ := st
      rw [passF_one]
      have hx4 := s4 _ _ ha
      refine ⟨_, rfl, a, C, dx, fs, _, rfl, hx4, TH.cl, nf _ (by unfold HN; simp), fl.f3, _, rfl, sa, _, _, _, rfl, rfl, .inl (s4 _ _ hss), atI_nat (nvs_gM (by omega)), _, rfl, _, _, rfl, rfl, _, rfl, ?_⟩
      have z0 : ∀ x y : Nat, (!(Builtin.bitAnd (x : Int) (y : Int) != 0)) = decide (x &&& y = 0) := fun x y => by
        rw [and_nat, Bool.eq_iff_iff, decide_eq_true_iff]
        simp
      have hlb' : pa ≠ lb := pn
      -- nothing more is done
      have keep : ∀ w7, canP (gM h.ss) (gM h.ls) wt1 un1 lf[i] = false → ∃ v7, [some (V.ref a), some (.int (now : Nat)), some (.int (un1 : Nat)), some (.ref pa), some (.ref lb), some (.int (pl.length : Nat)), some (.int (wt1 : Nat)), w7] = [some (.ref a), some (.int (now : Nat)), some (.int ((if canP (gM h.ss) (gM h.ls) wt1 un1 lf[i] = true then (pl1 ++ [lf[i]], dif wt1 (2 ^ lf[i]), dif un1 (gM h.ts lf[i])) else (pl1, wt1, un1)).2.2 : Nat)), some (.ref pa), some (.ref lb), some (.int (pl.length : Nat)), some (.int ((if canP (gM h.ss) (gM h.ls) wt1 un1 lf[i] = true then (pl1 ++ [lf[i]], dif wt1 (2 ^ lf[i]), dif un1 (gM h.ts lf[i])) else (pl1, wt1, un1)).2.1 : Nat)), v7] ∧ Same H H4 ∧
          H4 pa = some (.lst (nvs (if canP (gM h.ss) (gM h.ls) wt1 un1 lf[i] = true then (pl1 ++ [lf[i]], dif wt1 (2 ^ lf[i]), dif un1 (gM h.ts lf[i])) else (pl1, wt1, un1)).1)) ∧ H4 lb = some (.lst (nvs lf)) := fun w7 c => by
        rw [c, if_neg (by decide)]
        exact ⟨_, rfl, s4, hpa4, hlb4⟩
      show if (!(Builtin.bitAnd ((gM h.ss lf[i] : Nat) : Int) ((un1 : Nat) : Int) != 0)) = true then _ else _
      rw [z0]
      by_cases c1 : gM h.ss lf[i] &&& un1 = 0
      · refine iteT' (decide_eq_true c1) ?_
        refine ⟨_, rfl, a, C, dx, fs, _, rfl, hx4, TH.cl, nf _ (by unfold HN; simp), fl.f7, _, rfl, la, _, _, _, rfl, rfl, .inl (s4 _ _ hls), atI_nat (nvs_gM (by omega)), _, rfl, _, _, rfl, rfl, _, rfl, ?_⟩
        show if (!(Builtin.bitAnd ((gM h.ls lf[i] : Nat) : Int) ((wt1 : Nat) : Int) != 0)) = true then _ else _
        rw [z0]
        by_cases c2 : gM h.ls lf[i] &&& wt1 = 0
        · refine iteT' (decide_eq_true c2) ?_
          have cp : canP (gM h.ss) (gM h.ls) wt1 un1 lf[i] = true := by unfold canP; rw [decide_eq_true c1, decide_eq_true c2]; rfl
          rw [cp, if_pos rfl]
          refine ⟨_, rfl, .inl ⟨rfl, _, SqL.of hpa4⟩, _, rfl, pa, _, _, rfl, rfl, hpa4, szl (by rw [nvs_len]; omega), ?_⟩
          have up : Same H (upd H4 pa (.lst (nvs pl1 ++ [.int ((lf[i] : Nat) : Int)]))) := same_mut s4 n1
          have eb : ∀ q : Nat, Builtin.bitAnd (wt1 : Int) (Builtin.bitNot (1 * 2 ^ ((q : Int)).toNat)) = ((dif wt1 (2 ^ q) : Nat) : Int) := fun q => by rw [shl_one, and_not]
          refine ⟨_, rfl, _, rfl, _, _, rfl, rfl, ⟨by omega, by omega, by decide⟩, _, rfl, _, _, rfl, rfl, ?_⟩
          refine ⟨_, rfl, _, rfl, a, C, dx, fs, _, rfl, up _ _ ha, TH.cl, nf _ (by unfold HN; simp), fl.f2, _, rfl, ta, _, _, _, rfl, rfl, .inl (up _ _ hts), atI_nat (nvs_gM (by omega)), _, rfl, _, _, rfl, rfl, ?_⟩
          refine ⟨some (.int ((lf[i] : Nat) : Int)), ?_, up, ?_, ?_⟩
          · rw [← eb, ← and_not]
            rfl
          · rw [upd_same, nvs_app]
            rfl
          · rw [upd_ne hlb'.symm]
            exact hlb4
        · exact iteF' (decide_eq_false c2) (keep _ (by unfold canP; rw [decide_eq_false c2, Bool.and_false]))
      · exact iteF' (decide_eq_false c1) (keep _ (by unfold canP; rw [decide_eq_false c1, Bool.false_and]))
    · rintro σ' H4 ⟨v7, rfl, s4, hpa4, hlb4⟩
      rw [nvs_len, List.take_length] at hpa4
      rw [nvs_len, List.take_length]
      have pi := pass_ok lf pl wt un' pc lnd fun p hp => (lfm p).mp hp
      obtain ⟨g1, g2⟩ := pass_grow (sp := gM h.ss) (to := gM h.ts) (la := gM h.ls) lf pl wt un'
      have ef' := ef
      unfold placeF at ef'
      have lf' : ∀ j, j ∈ lf.filter (fun p => (passF (gM h.ss) (gM h.ts) (gM h.ls) lf pl wt un').2.1.testBit p) ↔ j ∈ L ∧ j ∉ (passF (gM h.ss) (gM h.ts) (gM h.ls) lf pl wt un').1 := fun j => by
        rw [List.mem_filter, pi.wt]
        exact ⟨fun z => z.2, fun z => ⟨(lfm j).mpr ⟨z.1, fun m => z.2 (place_ok.pass_keep lf pl wt un' j m)⟩, z⟩⟩
      have pil := hnb _ pi.nd pi.sub
      generalize passF (gM h.ss) (gM h.ts) (gM h.ls) lf pl wt un' = st at hpa4 pil pi g1 g2 ef' lf' ⊢
      obtain ⟨pl1, wt1, un1⟩ := st
      have hpa4 : H4 pa = some (.lst (nvs pl1)) := hpa4
      have pi : Plc (gM h.ss) (gM h.ts) (gM h.ls) L un pl1 wt1 un1 := pi
      have n4 : H pa = none := n1
      refine ⟨_, rfl, lb, rfl, ⟨_, SqL.of hlb4⟩, fun D hD => lc_list (K := K) (a := lb) (xs := nvs lf) (fun i H' => Same H4 H' ∧ H' D = some (.lst (nvs ((lf.take i).filter fun p => wt1.testBit p)))) ?_ ?_ ?_ ?_⟩
      · exact ⟨same_new hD, upd_same⟩
      · rintro i H' _ ⟨s5, _⟩
        exact SqL.of (s5 _ _ hlb4)
      · rintro i y H' hy ⟨s5, h5⟩
        obtain ⟨il, rfl⟩ := nvs_lt hy
        have fll := List.length_filter_le (fun p => wt1.testBit p) (lf.take i)
        rw [List.length_take] at fll
        have tk : (lf.take (i + 1)).filter (fun p => wt1.testBit p) = (lf.take i).filter (fun p => wt1.testBit p) ++ (if wt1.testBit lf[i] = true then [lf[i]] else []) := by
          rw [List.take_add_one, List.getElem?_eq_getElem il, List.filter_append]
          congr 1
          by_cases c : wt1.testBit lf[i] = true
          · rw [if_pos c]; simp [c]
          · rw [if_neg c]; simp [c]
        refine ⟨rfl, _, rfl, _, rfl, lf[i], wt1, rfl, _, rfl, ?_⟩
        cases c : wt1.testBit lf[i] with
        | true =>
          rw [if_pos c] at tk
          refine ⟨_, rfl, _, h5, szl (by rw [nvs_len]; omega), same_mut s5 hD, ?_⟩
          rw [upd_same, tk, nvs_app]
          rfl
        | false =>
          rw [if_neg (by rw [c]; decide), List.append_nil] at tk
          exact ⟨s5, by rw [tk]; exact h5⟩
      · rintro H5 ⟨s5, h5⟩
        rw [nvs_len, List.take_length] at h5
        have pD : pa ≠ D := fun z => by
          rw [← z, hpa4] at hD
          cases hD
        have lnd' : (lf.filter fun p => wt1.testBit p).Nodup := lnd.filter _
        by_cases cc : pl1.length = pl.length
        · have e2 : (if pl1.length = pl.length then (pl1, lf.filter fun p => wt1.testBit p, un1) else placeF (gM h.ss) (gM h.ts) (gM h.ls) kf (lf.filter fun p => wt1.testBit p) pl1 wt1 un1) = stgH h now un := ef'
          rw [if_pos cc] at e2
          exact ⟨0, by omega, pl1, _, wt1, un1, (pl.length : Int), D, _, pD, rfl, s4.trans s5, s5 _ _ hpa4, h5, pi, lnd', lf', .inr ⟨by rw [cc], e2, s4.free hD⟩⟩
        · have e2 : (if pl1.length = pl.length then (pl1, lf.filter fun p => wt1.testBit p, un1) else placeF (gM h.ss) (gM h.ts) (gM h.ls) kf (lf.filter fun p => wt1.testBit p) pl1 wt1 un1) = stgH h now un := ef'
          rw [if_neg cc] at e2
          have g1' : pl.length ≤ pl1.length := g1
          have p1 := nodup_le pi.nd pi.sub
          obtain ⟨k', rfl⟩ : ∃ k', kf = k' + 1 := ⟨kf - 1, by omega⟩
          exact ⟨k' + 1, by omega, pl1, _, wt1, un1, (pl.length : Int), D, _, pD, rfl, s4.trans s5, s5 _ _ hpa4, h5, pi, lnd', lf', .inl ⟨by omega, k', rfl, by omega, e2⟩⟩
end
end Af

set_option Elab.async false
set_option linter.all false
set_option maxRecDepth 100000
set_option maxHeartbeats 4000000
namespace Af
open PySem L2
abbrev s_Hunt_is_sure : Stmt := inClass (top 46) 1
abbrev N_Hunt_is_sure : List Str := ["self", "piece", "epoch"]
theorem sc_Hunt_is_sure : FnScope N_Hunt_is_sure ["self", "piece", "epoch"] (defScope s_Hunt_is_sure) := ⟨rfl, rfl, rfl, by decide +kernel, rfl, by decide +kernel, by decide +kernel⟩

abbrev s_go_back : Stmt := top 51
abbrev N_go_back : List Str := ["hunt", "epoch", "order", "spoils", "unsettled", "now", "placed", "left", "piece"]
theorem sc_go_back : FnScope N_go_back ["hunt", "epoch"] (defScope s_go_back) := ⟨rfl, rfl, rfl, by decide +kernel, rfl, by decide +kernel, by decide +kernel⟩

def sureH (h : Hd) (e p : Nat) : Bool := decide (gE h.es p < (e : Int)) || h.cl.contains p
def huntH (h : Hd) (e : Nat) : Option (List Nat) := huntO (gM h.ss) (gM h.ts) (gM h.ls) (memF h) (fun k => bitsL (memF h k)) (sureH h) h.first h.asked e
/-- an order that was found, or none -/
def GoV (H : Hp) (v : V) : Option (List Nat) → Prop
  | none => v = .non
  | some r => ∃ l, v = .ref l ∧ H l = some (.lst (nvs r))
def sp_sure (C : Addr) : Sp := fun vs H Q _ => ∃ (x : V) (h : Hd) (n p e : Nat), vs = [x, .int (p : Nat), .int (e : Nat)] ∧ HuntV C H x h ∧ OkH n h ∧ p < n ∧ Q (.bl (sureH h e p)) H
def sp_go (C : Addr) : Sp := fun vs H Q _ => ∃ (x : V) (h : Hd) (n e : Nat), vs = [x, .int (e : Nat)] ∧ HuntV C H x h ∧ OkH n h ∧ e < h.ms.length ∧ e ≤ 40 ∧ ∀ t v d H', Same H H' → H' t = some (.tup [v, .ref d]) → GoV H' v (huntH h e) → (∀ l, v = .ref l → H l = none) → Q (.ref t) H'
section
variable {P : Program} {w : World} {K : PySem.W.Frag} {mg : Str → Option Value} {base : Heap}
theorem ok_sure {f C : Addr} {fd : FuncData} (F : Fun K "is_sure" "Hunt.is_sure" s_Hunt_is_sure f fd) (T : Txt mg) (TH : ObjC K mg "Hunt" C HN) : FnOk P w K mg base CX0 1 f fd ["self", "piece", "epoch"] (sp_sure C) := by
  refine F.ok sc_Hunt_is_sure (fun vs H Q E h => ?_) (fun cdv A outer s H vs Q E hr h => ?_)
  · obtain ⟨_, _, _, _, _, rfl, _⟩ := h
    rfl
  obtain ⟨x, h, n, p, e, rfl, hv, ok, pn, k⟩ := h
  obtain ⟨a, dx, fs, ta, sa, ea, ca, la, ma, mls, rfl, ha, fl, hts, hss, hes, hcl, hls, hms, hm⟩ := hv.ex
  have nf : ∀ f ∈ HN, NoAttr K C f := TH.no
  have el := ok.el
  refine ⟨_, (pss_one (ps_ret (pe_or (pe_cmpR op_lt (pe_ix ix_seq' (pe_fld (pv 0) rfl) (pv 1) (fun _ _ => rfl)) (pv 2) (nomark _)) (pe_one (pe_cmpR op_in_seq (pv 1) (pe_fld (pv 0) rfl) (by rfl)))))), ?_⟩
  refine ⟨_, rfl, a, C, dx, fs, _, rfl, ha, TH.cl, nf _ (by unfold HN; simp), fl.f5, _, rfl, ea, _, _, _, rfl, rfl, .inl hes, atI_nat (gE_get (by omega)), _, rfl, _, _, rfl, rfl, _, rfl, ?_⟩
  have kk := k
  unfold sureH at kk
  cases c : decide (gE h.es p < (e : Int)) with
  | true =>
    rw [c] at kk
    exact iteT kk
  | false =>
    rw [c, Bool.false_or] at kk
    refine iteF' (by rfl) ?_
    refine ⟨_, rfl, _, rfl, a, C, dx, fs, _, rfl, ha, TH.cl, nf _ (by unfold HN; simp), fl.f6, ca, _, rfl, .inl (SqL.of hcl), rfl, flat_ivs _, ?_⟩
    show Q (.bl (inV (.int ((p : Nat) : Int)) (nvs h.cl))) H
    rw [in_nvs]
    exact kk
theorem nvs_rev (ls : List Nat) : (nvs ls).reverse = nvs ls.reverse := by
  unfold nvs ivs
  rw [List.map_reverse, List.map_reverse]
theorem putK_len {κ : Type} [DecidableEq κ] (rows : List (κ × V)) (k : κ) (v : V) : (putK rows k v).length ≤ rows.length + 1 := by
  unfold putK
  split
  · rw [List.length_map]; exact Nat.le_succ _
  · rw [List.length_append]; exact Nat.le_refl _
theorem place_left {sp to la : Nat → Nat} : ∀ (k : Nat) (left pl : List Nat) (wt un : Nat), (placeF sp to la k left pl wt un).2.1.length ≤ left.length
  | 0, left, pl, wt, un => Nat.le_refl _
  | k + 1, left, pl, wt, un => by
    unfold placeF
    split
    · exact List.length_filter_le _ _
    · exact Nat.le_trans (place_left k _ _ _ _) (List.length_filter_le _ _)
theorem left40 (h : Hd) (n k un : Nat) (ok : OkH n h) (lt : k < h.ms.length) : (stgH h k un).2.1.length ≤ 40 := by
  have em : memF h k = h.ms[k] := by unfold memF; rw [List.getD_eq_getElem?_getD, List.getElem?_eq_getElem lt]; rfl
  have h1 := place_left (sp := gM h.ss) (to := gM h.ts) (la := gM h.ls) ((memF h k).length + 1) (memF h k) [] (bitsL (memF h k)) un
  have h2 := nodup_le (b := List.range n) ((ok.ma _ (List.getElem_mem lt)).imp fun h => Nat.ne_of_lt h) fun p hp => List.mem_range.mpr (ok.mb _ (List.getElem_mem lt) p hp)
  rw [List.length_range, ← em] at h2
  have := ok.n40
  exact Nat.le_trans h1 (by omega)
theorem ok_go {f C fS : Addr} {fd fdS : FuncData} (F : Fun K "_go_back" "_go_back" s_go_back f fd) (T : Txt mg) (t_reversed : mg "reversed" = none) (t_any : mg "any" = none) (c_BASE : ∃ t, mg "BASE" = some (.int (-1) t)) (TH : ObjC K mg "Hunt" C HN) (M_su : Meth K C "is_sure" fS)
    (G_su : FnOk P w K mg base CX0 1 fS fdS ["self", "piece", "epoch"] (sp_sure C)) (b_su : Binds K fdS ["self", "piece", "epoch"] []) (c_place : Cal P w K mg base 2 "_place" ["hunt", "epoch", "unsettled"] (sp_place C)) (c_least_in : Cal P w K mg base 1 "_least_in" ["mask"] sp_least) :
    FnOk P w K mg base CX0 3 f fd ["hunt", "epoch"] (sp_go C) := by
  obtain ⟨tkB, c_BASE⟩ := c_BASE
  refine F.ok sc_go_back (fun vs H Q E h => ?_) (fun cdv A outer s H vs Q E hr h => ?_)
  · obtain ⟨_, _, _, _, rfl, _⟩ := h
    rfl
  obtain ⟨x, h, n, e, rfl, hv, ok, el, e40, k⟩ := h
  refine ⟨_, (pss_cons (ps_par3 (i := 2) (j := 3) (l := 4) rfl sc_go_back.nd rfl rfl rfl (by decide) (by decide) (by decide) rfl rfl rfl (pa_cons (pe_lst' pa_nil) (pa_cons pe_dnewK (pa_cons (pe_fld (pv 0) rfl) pa_nil))) (by rfl))
    (pss_cons (ps_for PassesOwn.never rfl (pi_revR (by rfl) t_reversed (prg_1 (by rfl) T.range (pe_op op_add (pv 1) pe_int))) (pg_name (i := 5) sc_go_back.nd rfl (Or.inl rfl))
      (pss_cons (ps_asg (pe_cal c_place hr (pa_cons (pv 0) (pa_cons (pv 5) (pa_cons (pv 4) pa_nil)))) (pg_tup rfl (pgs_cons (pg_name (i := 6) sc_go_back.nd rfl (Or.inl rfl)) (pgs_cons (pg_name (i := 7) sc_go_back.nd rfl (Or.inl rfl)) (pgs_cons (pg_name (i := 4) sc_go_back.nd rfl (Or.inl rfl)) pgs_nil)))))
    (pss_cons (ps_expr (pe_bm PySem.F.plainAttrs_list PySem.F.slot_list_extend PySem.F.type_list_extend mt_extend (pv 2) (pa_cons (pv 6) pa_nil)))
    (pss_cons (ps_for PassesOwn.never rfl (pi_list (pv 7)) (pg_name (i := 8) sc_go_back.nd rfl (Or.inl rfl))
      (pss_one (ps_if (pt_truth (pe_op op_and (pe_ix ix_seq' (pe_fld (pv 0) rfl) (pv 8) (fun _ _ => rfl)) (pv 4)) (by intro _; rfl))
      (pss_one (ps_asg (pe_cal c_least_in hr (pa_cons (pe_op op_and (pe_ix ix_seq' (pe_fld (pv 0) rfl) (pv 8) (fun _ _ => rfl)) (pv 4)) pa_nil)) (pg_sub (pv 3) (pv 8) (set_dict hr.u1))))
      pss_nil)))
    (pss_one (ps_if (pt_val (pe_callB (cr_any rfl) (by rfl) t_any (by decide +kernel) (pa_cons (pe_lc (own := [("piece", 8)]) (g := (gName 8)) (tt := tYes) rfl sc_go_back.nd (pi_list (pv 7)) (blkOk_by (own := [("piece", 8)]) (N := N_go_back) (sc := defScope s_go_back) (by decide +kernel)) (fun _ _ _ _ _ => pg_name (i := 8) sc_go_back.nd rfl (Or.inl rfl)) (fun _ _ _ _ _ => pts_nil) (fun _ _ _ _ _ => (pe_methX (E := fun _ => E0) (pl := _) (pv 0) TH.cl M_su G_su (hr.mono (by decide)) b_su pass0A (pa_cons (pv 8) (pa_cons (pv 1) pa_nil))))) pa_nil)))
      (pss_one (ps_ret (pe_tup' (pa_cons pe_non (pa_cons (pv 3) pa_nil)))))
      pss_nil))))))
    (pss_cons (ps_if (pt_truth (pe_op op_and (pe_fld (pv 0) rfl) (pv 4)) (by intro _; rfl))
      (pss_cons (ps_asg (pe_cal c_least_in hr (pa_cons (pe_op op_and (pe_fld (pv 0) rfl) (pv 4)) pa_nil)) (pg_sub (pv 3) (pe_glob (v := .int (-1)) rfl c_BASE ⟨_, rfl⟩) (set_dict hr.u1)))
    (pss_one (ps_ret (pe_tup' (pa_cons pe_non (pa_cons (pv 3) pa_nil))))))
      pss_nil)
    (pss_cons (ps_expr (pe_bm0 PySem.F.plainAttrs_list PySem.F.slot_list_reverse PySem.F.type_list_reverse mt_reverse (pv 2)))
    (pss_one (ps_ret (pe_tup' (pa_cons (pv 2) (pa_cons pe_dnewK pa_nil))))))))), ?_⟩
  obtain ⟨a, dx, fs, ta, sa, ea, ca, la, ma, mls, rfl, ha, fl, hts, hss, hes, hcl, hls, hms, hm⟩ := hv.ex
  have nf : ∀ f ∈ HN, NoAttr K C f := TH.no
  have sl := ok.sl
  have n40 := ok.n40
  refine ⟨szr, fun oa H1 n1 s1 h1 => fun da nd => ?_⟩
  have nda : H da = none := s1.free nd
  have od : oa ≠ da := ne_of_none h1 nd
  have s2 : Same H (upd H1 da (.dK [])) := s1.trans (same_new nd)
  have h2 : (upd H1 da (.dK [])) oa = some (.lst (nvs [])) := (upd_ne od).trans h1
  have h2' : (upd H1 da (.dK [])) da = some (.dK []) := upd_same
  generalize upd H1 da (.dK []) = H2 at s2 h2 h2'
  refine ⟨_, rfl, a, C, dx, fs, _, rfl, s2 _ _ ha, TH.cl, nf _ (by unfold HN; simp), fl.f1, _, _, _, rfl, ?_⟩
  generalize hR : goF (gM h.ss) (gM h.ts) (gM h.ls) (memF h) (fun k => bitsL (memF h k)) (sureH h e) (downs e) [] h.asked = R
  refine ⟨_, rfl, _, _, rfl, rfl, _, rfl, by decide, by decide, by omega, by omega, for_it walk_rangeC (fun i σ' H' => ∃ (ord : List Nat) (un : Nat) (rows : List (L2.Key × V)) (v5 v6 v7 v8 : Option V), σ' = [some (.ref a), some (.int (e : Nat)), some (.ref oa), some (.ref da), some (.int (un : Nat)), v5, v6, v7, v8] ∧ Same H H' ∧ H' oa = some (.lst (nvs ord)) ∧ H' da = some (.dK rows) ∧
    ord.length ≤ 40 * i ∧ rows.length ≤ 40 * i ∧ (i ≤ e → goF (gM h.ss) (gM h.ts) (gM h.ls) (memF h) (fun k => bitsL (memF h k)) (sureH h e) (downs (e - i)) ord un = R) ∧ (i = e + 1 → R = some (ord, un))) ?_ ?_ ?_ ?_⟩
  · exact ⟨[], h.asked, [], _, _, _, _, rfl, s2, h2, h2', Nat.le_refl _, Nat.le_refl _, fun _ => hR, fun z => by omega⟩
  · exact fun _ _ _ _ _ => True.intro
  · rintro i x σ' H3 H3' hi ⟨ord, un, rows, v5, v6, v7, v8, rfl, s3, ho, hd, ol, rl, g1, g2⟩ ⟨rfl, rfl⟩
    have ie : i ≤ e := by omega
    have ex : (0 : Int) + (((((e : Int) + 1) - 0).toNat : Nat) : Int) - 1 + (i : Int) * (-1) = (((e - i : Nat)) : Int) := by omega
    show gName 5 (V.int (0 + (((((e : Int) + 1) - 0).toNat : Nat) : Int) - 1 + (i : Int) * (-1))) _ _ _
    rw [ex]
    have g1 := g1 ie
    refine ⟨_, rfl, _, rfl, _, rfl, .ref a, h, n, e - i, un, rfl, hv.same s3, ok, by omega, fun t pa lb H4 s4 np nl ht hpa hlb => ?_⟩
    have o0 : H oa = none := n1
    have poa : pa ≠ oa := fun z => by rw [z, ho] at np; cases np
    have pda : pa ≠ da := fun z => by rw [z, hd] at np; cases np
    have loa : lb ≠ oa := fun z => by rw [z, ho] at nl; cases nl
    have lda : lb ≠ da := fun z => by rw [z, hd] at nl; cases nl
    have P0 : Placed (gM h.ss) (gM h.ts) (gM h.ls) (memF h (e - i)) un (stgH h (e - i) un) := by
      have lt : e - i < h.ms.length := by omega
      have em : memF h (e - i) = h.ms[e - i] := by unfold memF; rw [List.getD_eq_getElem?_getD, List.getElem?_eq_getElem lt]; rfl
      have nd : (memF h (e - i)).Nodup := by rw [em]; exact (ok.ma _ (List.getElem_mem lt)).imp fun h => Nat.ne_of_lt h
      exact place_ok nd _ _ _ _ _ (Plc.start (bitsL_bit nd)) nd (fun j => by simp) (by simp) (Nat.zero_le _)
    have mb : ∀ p ∈ memF h (e - i), p < n := fun p hp => by
      have lt : e - i < h.ms.length := by omega
      have em : memF h (e - i) = h.ms[e - i] := by unfold memF; rw [List.getD_eq_getElem?_getD, List.getElem?_eq_getElem lt]; rfl
      rw [em] at hp
      exact ok.mb _ (List.getElem_mem lt) p hp
    have ml40 : ∀ l : List Nat, l.Nodup → (∀ p ∈ l, p ∈ memF h (e - i)) → l.length ≤ 40 := fun l nd sub => by
      have := nodup_le (b := List.range n) nd fun p hp => List.mem_range.mpr (mb p (sub p hp))
      rw [List.length_range] at this
      omega
    obtain ⟨⟨wtx, pcx⟩, lfx, _⟩ := P0
    have pl40 := ml40 _ pcx.nd pcx.sub
    have lb0 : ∀ p ∈ (stgH h (e - i) un).2.1, p < n := fun p hp => mb p ((lfx p).mp hp).1
    have go0 : goF (gM h.ss) (gM h.ts) (gM h.ls) (memF h) (fun k => bitsL (memF h k)) (sureH h e) (downs (e - i)) ord un = if (stgH h (e - i) un).2.1.any (sureH h e) = true then none else (if i = e then some (ord ++ (stgH h (e - i) un).1, (stgH h (e - i) un).2.2) else goF (gM h.ss) (gM h.ts) (gM h.ls) (memF h) (fun k => bitsL (memF h k)) (sureH h e) (downs (e - (i + 1))) (ord ++ (stgH h (e - i) un).1) (stgH h (e - i) un).2.2) := by
      by_cases z : i = e
      · subst z
        rw [Nat.sub_self, if_pos rfl]
        rfl
      · have e1 : e - i = (e - (i + 1)) + 1 := by omega
        rw [if_neg z, e1]
        rfl
    have ll40 : (stgH h (e - i) un).2.1.length ≤ 40 := left40 h n (e - i) un ok (by omega)
    generalize stgH h (e - i) un = st at ht hpa hlb pl40 lb0 go0 ll40 pcx lfx
    obtain ⟨pl1, lf1, un1⟩ := st
    refine ⟨t, _, rfl, SqT.of ht, rfl, _, _, rfl, _, _, rfl, _, _, rfl, rfl, ?_⟩
    have S4 := s3.trans s4
    refine ⟨_, rfl, .inl ⟨rfl, _, SqL.of (s4 _ _ ho)⟩, _, rfl, oa, pa, _, _, rfl, rfl, s4 _ _ ho, hpa, sz (by rw [nvs_len, nvs_len]; show ord.length + pl1.length ≤ 100000; have : pl1.length ≤ 40 := pl40; omega), ?_⟩
    have S5 : Same H (upd H4 oa (.lst (nvs ord ++ nvs pl1))) := same_mut S4 o0
    have ho5 : (upd H4 oa (.lst (nvs ord ++ nvs pl1))) oa = some (.lst (nvs (ord ++ pl1))) := by rw [upd_same, nvs_app]
    have hd5 : (upd H4 oa (.lst (nvs ord ++ nvs pl1))) da = some (.dK rows) := (upd_ne od.symm).trans (s4 _ _ hd)
    have hl5 : (upd H4 oa (.lst (nvs ord ++ nvs pl1))) lb = some (.lst (nvs lf1)) := (upd_ne loa).trans hlb
    generalize upd H4 oa (.lst (nvs ord ++ nvs pl1)) = H5 at S5 ho5 hd5 hl5
    have ll1 : lf1.length ≤ 40 := ll40
    have lb1 : ∀ p ∈ lf1, p < n := lb0
    have pl2 : pl1.length ≤ 40 := pl40
    refine ⟨_, rfl, lb, rfl, ⟨_, SqL.of hl5⟩, ?_⟩
    refine for_list (K := K) (a := lb) (xs := nvs lf1) (fun j σ' H' => ∃ (rows' : List (L2.Key × V)) (v8 : Option V), σ' = [some (.ref a), some (.int (e : Nat)), some (.ref oa), some (.ref da), some (.int (un1 : Nat)), some (.int ((e - i : Nat) : Int)), some (.ref pa), some (.ref lb), v8] ∧ Same H H' ∧ H' oa = some (.lst (nvs (ord ++ pl1))) ∧ H' da = some (.dK rows') ∧
      rows'.length ≤ rows.length + j ∧ H' lb = some (.lst (nvs lf1))) ?_ ?_ ?_ ?_
    · exact ⟨rows, _, rfl, S5, ho5, hd5, Nat.le_refl _, hl5⟩
    · rintro j σ' H' _ ⟨rows', v8, rfl, _, _, _, _, z⟩
      exact SqL.of z
    · rintro j y σ' H6 hy ⟨rows', v8, rfl, S6, ho6, hd6, rl6, hl6⟩
      obtain ⟨jl, rfl⟩ := nvs_lt hy
      have pn := lb1 _ (List.getElem_mem jl)
      have at1 : atI (nvs h.ss) ((lf1[j] : Nat) : Int) = some (.int ((gM h.ss lf1[j] : Nat) : Int)) := atI_nat (nvs_gM (by omega))
      refine ⟨_, rfl, a, C, dx, fs, _, rfl, S6 _ _ ha, TH.cl, nf _ (by unfold HN; simp), fl.f3, _, rfl, sa, _, _, _, rfl, rfl, .inl (S6 _ _ hss), at1, _, rfl, _, _, rfl, rfl, _, rfl, ite2 (fun _ => ?_) (fun _ => ?_)⟩
      · refine ⟨_, rfl, a, C, dx, fs, _, rfl, S6 _ _ ha, TH.cl, nf _ (by unfold HN; simp), fl.f3, _, rfl, sa, _, _, _, rfl, rfl, .inl (S6 _ _ hss), at1, _, rfl, _, _, rfl, rfl, gM h.ss lf1[j] &&& un1, by rw [← and_nat], ?_⟩
        refine ⟨_, rfl, _, rfl, da, _, rfl, DPut.k (k := .inl ((lf1[j] : Nat) : Int)) hd6 (szl (by omega)), ?_⟩
        refine ⟨_, _, rfl, same_mut S6 nda, (upd_ne od).trans ho6, upd_same, ?_, (upd_ne lda).trans hl6⟩
        have := putK_len rows' (.inl ((lf1[j] : Nat) : Int)) (.int (leastI (gM h.ss lf1[j] &&& un1)))
        omega
      · exact ⟨rows', _, rfl, S6, ho6, hd6, by omega, hl6⟩
    · rintro σ' H6 ⟨rows', v8, rfl, S6, ho6, hd6, rl6, hl6⟩
      rw [nvs_len] at rl6
      refine ⟨_, rfl, lb, rfl, ⟨_, SqL.of hl6⟩, fun D hD => lc_list (K := K) (a := lb) (xs := nvs lf1) (fun j H' => Same H6 H' ∧ H' D = some (.lst (((lf1.take j).map (sureH h e)).map V.bl))) ?_ ?_ ?_ ?_⟩
      · exact ⟨same_new hD, upd_same⟩
      · rintro j H' _ ⟨s7, _⟩
        exact SqL.of (s7 _ _ hl6)
      · rintro j y H' hy ⟨s7, h7⟩
        obtain ⟨jl, rfl⟩ := nvs_lt hy
        have S7 := S6.trans s7
        refine ⟨rfl, _, rfl, a, dx, fs, rfl, S7 _ _ ha, fl.no, _, rfl, _, rfl, .ref a, h, n, lf1[j], e, rfl, hv.same S7, ok, lb1 _ (List.getElem_mem jl), _, h7, szl (by rw [List.length_map, List.length_map, List.length_take]; omega), same_mut s7 hD, ?_⟩
        rw [upd_same, List.take_add_one, List.getElem?_eq_getElem jl, List.map_append, List.map_append]
        rfl
      · rintro H7 ⟨s7, h7⟩
        rw [nvs_len, List.take_length] at h7
        refine ⟨D, lf1.map (sureH h e), rfl, SqL.of h7, _, rfl, ?_⟩
        have ea1 : (lf1.map (sureH h e)).any id = lf1.any (sureH h e) := by rw [List.any_map]; rfl
        rw [ea1]
        have S7 := S6.trans s7
        have go1 := go0
        have go1 : _ = if lf1.any (sureH h e) = true then none else (if i = e then some (ord ++ pl1, un1) else goF (gM h.ss) (gM h.ts) (gM h.ls) (memF h) (fun k => bitsL (memF h k)) (sureH h e) (downs (e - (i + 1))) (ord ++ pl1) un1) := go0
        rw [g1] at go1
        cases c : lf1.any (sureH h e) with
        | true =>
          rw [c, if_pos rfl] at go1
          refine iteT ⟨_, rfl, szr, fun t8 H8 n8 s8 h8 => k t8 .non da H8 (S7.trans s8) h8 ?_ fun l z => (by cases z)⟩
          have : huntH h e = none := by
            unfold huntH huntO
            rw [hR, go1]
          rw [this]
          rfl
        | false =>
          rw [c, if_neg (by decide)] at go1
          refine iteF ⟨ord ++ pl1, un1, rows', _, _, _, _, rfl, S7, s7 _ _ ho6, s7 _ _ hd6, by rw [List.length_append]; omega, by omega, fun z => ?_, fun z => ?_⟩
          · rw [if_neg (by omega)] at go1
            exact go1.symm
          · rw [if_pos (by omega)] at go1
            exact go1
  · rintro σ' H3 ⟨ord, un, rows, v5, v6, v7, v8, rfl, s3, ho, hd, ol, rl, g1, g2⟩
    have g2 := g2 (by omega)
    have n1' : (((e : Int) + 1) - 0).toNat = e + 1 := by omega
    rw [n1'] at ol rl
    have hh : huntH h e = if h.first &&& un = 0 then some ord.reverse else none := by
      unfold huntH huntO
      rw [hR, g2]
    refine ⟨_, rfl, a, C, dx, fs, _, rfl, s3 _ _ ha, TH.cl, nf _ (by unfold HN; simp), fl.f4, _, rfl, _, _, rfl, rfl, _, rfl, ?_⟩
    have z0 : (Builtin.bitAnd ((h.first : Nat) : Int) ((un : Nat) : Int) != 0) = !decide (h.first &&& un = 0) := by
      rw [and_nat, Bool.eq_iff_iff]
      simp
    show if (Builtin.bitAnd ((h.first : Nat) : Int) ((un : Nat) : Int) != 0) = true then _ else _
    rw [z0]
    by_cases c : h.first &&& un = 0
    · rw [if_pos c] at hh
      refine iteF' (by rw [decide_eq_true c]; rfl) ?_
      refine ⟨_, rfl, .inl ⟨rfl, _, SqL.of ho⟩, oa, _, rfl, rfl, ho, ?_⟩
      have S4 : Same H (upd H3 oa (.lst (nvs ord).reverse)) := same_mut s3 n1
      refine ⟨_, rfl, fun d2 nd2 => ⟨szr, fun t8 H8 n8 s8 h8 => k t8 (.ref oa) d2 H8 ?_ h8 ?_ ?_⟩⟩
      · exact (S4.trans (same_new nd2)).trans s8
      · rw [hh]
        refine ⟨oa, rfl, s8 _ _ ((same_new nd2) _ _ ?_)⟩
        rw [upd_same, nvs_rev]
      · intro l z
        cases z
        exact n1
    · rw [if_neg c] at hh
      refine iteT' (by rw [decide_eq_false c]; rfl) ?_
      refine ⟨_, rfl, a, C, dx, fs, _, rfl, s3 _ _ ha, TH.cl, nf _ (by unfold HN; simp), fl.f4, _, rfl, _, _, rfl, rfl, h.first &&& un, by rw [← and_nat], ?_⟩
      refine ⟨_, rfl, da, _, rfl, DPut.k (k := .inl (-1)) hd (szl (by omega)), ?_⟩
      refine ⟨_, rfl, szr, fun t8 H8 n8 s8 h8 => k t8 .non da H8 ((same_mut s3 nda).trans s8) h8 ?_ fun l z => (by cases z)⟩
      rw [hh]
      rfl
end
end Af

set_option Elab.async false
set_option linter.all false
set_option maxRecDepth 100000
set_option maxHeartbeats 8000000
namespace Af
open PySem L2
abbrev s_Hunt___init : Stmt := inClass (top 46) 0
abbrev N_Hunt___init : List Str := ["self", "plan", "pattern", "claims", "begun", "_", "gone", "ahead", "pieces", "content", "piece", "epoch", "cell"]
theorem sc_Hunt___init : FnScope N_Hunt___init ["self", "plan", "pattern", "claims", "begun"] (defScope s_Hunt___init) := ⟨rfl, rfl, rfl, by decide +kernel, rfl, by decide +kernel, by decide +kernel⟩

/-- the pattern's cells where a content is not as it must be -/
def firstP (pt : Ptn) (c : List Int) : List Nat := (pt.filter fun q => !q.2.contains (c.getD q.1 0)).map (·.1)
def touchP (pt : Ptn) (p : Int × (Int × List Int)) : Nat := bitsL (cellsP pt p.2.1.toNat p.2.2.length)
def spoilM (pt : Ptn) (p : Int × (Int × List Int)) : Nat := bitsL (spoilP pt p.2.1.toNat p.2.2)
def memL (es : List Int) (G begun : List Nat) (k n : Nat) : List Nat := (List.range n).filter fun p => decide (gE es p = (k : Int)) && !G.contains p && !begun.contains p
theorem memL_succ (es : List Int) (G begun : List Nat) (k n : Nat) : memL es G begun k (n + 1) = memL es G begun k n ++ (if (decide (gE es n = (k : Int)) && !G.contains n && !begun.contains n) = true then [n] else []) := by
  unfold memL
  rw [List.range_succ, List.filter_append]
  congr 1
  rw [List.filter_cons]
  rfl
theorem memL_len (es : List Int) (G begun : List Nat) (k n : Nat) : (memL es G begun k n).length ≤ n := by
  have := List.length_filter_le (fun p => decide (gE es p = (k : Int)) && !G.contains p && !begun.contains p) (List.range n)
  rw [List.length_range] at this
  exact this
theorem paired_range {R : V → List Nat → Prop} (f : Nat → List Nat) : ∀ (as : List Addr) (s : Nat), (∀ k (hk : k < as.length), R (.ref as[k]) (f (s + k))) → Paired R (as.map V.ref) ((List.range' s as.length).map f)
  | [], _, _ => .nil
  | x :: as, s, h => by
    rw [List.length_cons, List.range'_succ, List.map_cons, List.map_cons]
    exact .cons (h 0 (by simp)) (paired_range f as (s + 1) fun k hk => by
      have := h (k + 1) (by simp; omega)
      rw [show s + 1 + k = s + (k + 1) by omega]
      exact this)
structure HdOk (h : Hd) (pl : Pl) (pt : Ptn) (T G : List Nat) (D : List (Nat × Nat)) (begun : List Nat) : Prop where
  asked : h.asked = bitsL (pt.map (·.1))
  first : h.first = bitsL (firstP pt (overF (allP pl.w 0 pl.sts) pl.cs begun))
  ts : h.ts = (allP pl.w 0 pl.sts).map (touchP pt)
  ss : h.ss = (allP pl.w 0 pl.sts).map (spoilM pt)
  es : h.es = rkP pl
  cl : ∀ x, x ∈ h.cl ↔ x ∈ T ∨ x ∈ parts D
  ls : ∀ i < (rkP pl).length, ∀ j < (rkP pl).length, (gM h.ls i).testBit j = wB (rkP pl) D (rkP pl).length i j
  ms : h.ms = (List.range (bars pl.sts + 1)).map fun k => memL (rkP pl) G begun k (rkP pl).length
  ok : OkH (rkP pl).length h
def sp_hinit (CH C : Addr) : Sp := fun vs H Q _ => ∃ (H0 : Hp) (a dx pa b : Addr) (x v : V) (pl : Pl) (sl ql el t g d : Addr) (pt : Ptn) (Tl Gl : List Nat) (Dl : List (Nat × Nat)) (begun : List Nat), vs = [.ref a, x, .ref pa, v, .ref b] ∧ H a = some (.ins CH dx []) ∧ H0 a = none ∧ Same H0 H ∧ PlanF C H0 x pl sl ql el ∧ PatV H0 pa pt ∧ OkPt pl.cs.length pt ∧
  ClV H0 v Tl Gl Dl t g d ∧ Cw (rkP pl) Tl Gl Dl ∧ H0 b = some (.lst (nvs begun)) ∧ (∀ p ∈ begun, p < (rkP pl).length) ∧ begun.length ≤ 40 ∧ ∀ H' h, Same H0 H' → HuntV CH H' (.ref a) h → HdOk h pl pt Tl Gl Dl begun → Q .non H'
section
variable {P : Program} {w : World} {K : PySem.W.Frag} {mg : Str → Option Value} {base : Heap}
theorem ok_hinit {f CH C : Addr} {fd : FuncData} (F : Fun K "__init__" "Hunt.__init__" s_Hunt___init f fd) (T : Txt mg) (TC : PlanC K mg C) (TH : ObjC K mg "Hunt" CH HN) (P_pieces : PropC P w K mg base C "pieces" (sp_p_pieces C)) (P_epochs : PropC P w K mg base C "epochs" (sp_p_epochs C))
    (c_mask_of : Cal P w K mg base 1 "mask_of" ["members"] sp_maskN) (c_cells_of : Cal P w K mg base 1 "_cells_of" ["piece", "pattern"] sp_cells_of) (c_spoiled_by : Cal P w K mg base 2 "_spoiled_by" ["piece", "pattern"] sp_spoiled_by)
    (c_overwritten : Cal P w K mg base 3 "overwritten" ["plan", "fall"] (sp_over C)) (c_piece_epochs : Cal P w K mg base 4 "piece_epochs" ["plan"] (sp_pe C)) (c_claimed_there : Cal P w K mg base 1 "claimed_there" ["claims"] sp_claimed) (c_later_pieces : Cal P w K mg base 5 "later_pieces" ["plan", "ahead"] (sp_later C)) :
    FnOk P w K mg base CX0 6 f fd ["self", "plan", "pattern", "claims", "begun"] (sp_hinit CH C) := by
  refine F.ok sc_Hunt___init (fun vs H Q E h => ?_) (fun cdv A outer s H vs Q E hr h => ?_)
  · obtain ⟨_, _, _, _, _, _, _, _, _, _, _, _, _, _, _, _, _, _, _, rfl, _⟩ := h
    rfl
  obtain ⟨H0, a, dx, pa, b, x, v, pl, sl, ql, el, t, g, d, pt, Tl, Gl, Dl, begun, rfl, ha, n0, s0, pF, hpt, okp, cv, cl, hb, bb, bl, k⟩ := h
  refine ⟨_, (pss_cons (ps_asg (pv 3) (pg_tup rfl (pgs_cons (pg_name (i := 5) sc_Hunt___init.nd rfl (Or.inl rfl)) (pgs_cons (pg_name (i := 6) sc_Hunt___init.nd rfl (Or.inl rfl)) (pgs_cons (pg_name (i := 7) sc_Hunt___init.nd rfl (Or.inl rfl)) pgs_nil)))))
    (pss_cons (ps_set (i := 8) sc_Hunt___init.nd rfl (Or.inl rfl) (pe_propC TC.cl P_pieces hr (pv 1)))
    (pss_cons (ps_fld (pv 0) (pe_cal c_mask_of hr (pa_cons (pe_callTy (call_list_dK rfl) (by rfl) T.list (by decide +kernel) (pa_cons (pv 2) pa_nil)) pa_nil)) rfl)
    (pss_cons (ps_fld (pv 0) (pe_lc (own := [("piece", 10)]) (g := (gName 10)) (tt := tYes) rfl sc_Hunt___init.nd (pi_list (pv 8)) (blkOk_by (own := [("piece", 10)]) (N := N_Hunt___init) (sc := defScope s_Hunt___init) (by decide +kernel)) (fun _ _ _ _ _ => pg_name (i := 10) sc_Hunt___init.nd rfl (Or.inl rfl)) (fun _ _ _ _ _ => pts_nil) (fun _ _ _ _ _ => (pe_cal c_mask_of hr (pa_cons (pe_cal c_cells_of hr (pa_cons (pv 10) (pa_cons (pv 2) pa_nil))) pa_nil)))) rfl)
    (pss_cons (ps_fld (pv 0) (pe_lc (own := [("piece", 10)]) (g := (gName 10)) (tt := tYes) rfl sc_Hunt___init.nd (pi_list (pv 8)) (blkOk_by (own := [("piece", 10)]) (N := N_Hunt___init) (sc := defScope s_Hunt___init) (by decide +kernel)) (fun _ _ _ _ _ => pg_name (i := 10) sc_Hunt___init.nd rfl (Or.inl rfl)) (fun _ _ _ _ _ => pts_nil) (fun _ _ _ _ _ => (pe_cal c_mask_of hr (pa_cons (pe_cal c_spoiled_by hr (pa_cons (pv 10) (pa_cons (pv 2) pa_nil))) pa_nil)))) rfl)
    (pss_cons (ps_set (i := 9) sc_Hunt___init.nd rfl (Or.inr rfl) (pe_cal c_overwritten hr (pa_cons (pv 1) (pa_cons (pv 4) pa_nil))))
    (pss_cons (ps_fld (pv 0) (pe_cal c_mask_of hr (pa_cons (pe_lock (pe_lc (own := [("cell", 12)]) (g := (gName 12)) rfl sc_Hunt___init.nd (pi_keys (pv 2)) (blkOk_by (own := [("cell", 12)]) (N := N_Hunt___init) (sc := defScope s_Hunt___init) (by decide +kernel)) (fun _ _ _ _ _ => pg_name (i := 12) sc_Hunt___init.nd rfl (Or.inl rfl)) (fun _ _ _ _ _ => (pts_one (pt_cmpR (op_notInK (K := K) rfl) (pe_ix ix_seq' (pv 9) (pv 12) (fun _ _ => rfl)) (pe_dget hr.u1 (pv 2) (pv 12) (fun _ _ => rfl)) (by rfl)))) (fun _ _ _ _ _ => (pv 12)))) pa_nil)) rfl)
    (pss_cons (ps_fld (pv 0) (pe_cal c_piece_epochs hr (pa_cons (pv 1) pa_nil)) rfl)
    (pss_cons (ps_fld (pv 0) (pe_cal c_claimed_there hr (pa_cons (pv 3) pa_nil)) rfl)
    (pss_cons (ps_fld (pv 0) (pe_cal c_later_pieces hr (pa_cons (pv 1) (pa_cons (pv 7) pa_nil))) rfl)
    (pss_cons (ps_fld (pv 0) (pe_lc (own := [("_", 5)]) (g := (gName 5)) (tt := tYes) rfl sc_Hunt___init.nd (pi_range1 rfl T.range (pa_cons (pe_propC TC.cl P_epochs hr (pv 1)) pa_nil)) (blkOk_by (own := [("_", 5)]) (N := N_Hunt___init) (sc := defScope s_Hunt___init) (by decide +kernel)) (fun _ _ _ _ _ => pg_name (i := 5) sc_Hunt___init.nd rfl (Or.inl rfl)) (fun _ _ _ _ _ => pts_nil) (fun _ _ _ _ _ => (pe_lst' pa_nil))) rfl)
    (pss_one (ps_for PassesOwn.never rfl (pi_enum rfl T.enumerate (pa_cons (pe_fld (pv 0) rfl) pa_nil)) (pg_tup rfl (pgs_cons (pg_name (i := 10) sc_Hunt___init.nd rfl (Or.inl rfl)) (pgs_cons (pg_name (i := 11) sc_Hunt___init.nd rfl (Or.inl rfl)) pgs_nil)))
      (pss_one (ps_if (PW.pt (pw_and (pt_cmpR op_notIn_seq (pv 10) (pv 6) (by rfl)) (pw_and1 (pt_cmpR op_notIn_seq (pv 10) (pv 4) (by rfl)))))
      (pss_one (ps_expr (pe_bm PySem.F.plainAttrs_list PySem.F.slot_list_append PySem.F.type_list_append mt_append (pe_ix ix_seq' (pe_fld (pv 0) rfl) (pv 11) (fun _ _ => rfl)) (pa_cons (pv 10) pa_nil))))
      pss_nil))))))))))))))), ?_⟩
  have nf : ∀ f ∈ HN, NoAttr K CH f := TH.no
  obtain ⟨cva, cxs, rfl, hcv, hT, hG, hDl, hDp⟩ := cv.ex
  obtain ⟨rows, hrw, hrp⟩ := hpt.ex
  have ib := allP_fit (w := pl.w) (i := 0) pF.ok.st
  have c24 := pF.ok.c24
  have pc := pF.ok.pc
  obtain ⟨xa, xca, xdx, xfs, xs0, ys0, rfl, pX, hxca, hst0, hps0, hxa⟩ := pF.x
  have yl := paired_len hps0
  have kn : ∀ q ∈ pt.map (·.1), q < pl.cs.length := fun q hq => by
    obtain ⟨p, hp, rfl⟩ := List.mem_map.mp hq
    exact okp.kb p hp
  have ptl : pt.length ≤ 24 := by
    have := nodup_le (b := List.range pl.cs.length) okp.nd fun q hq => List.mem_range.mpr (kn q hq)
    rw [List.length_range, List.length_map] at this
    omega
  have keys : (rows.map fun kv => kV kv.1) = nvs (pt.map (·.1)) := by
    have e := rows_keys hrp
    have e2 : (rows.map fun kv => kV kv.1) = (rows.map (·.1)).map kV := by rw [List.map_map]; rfl
    rw [e2, e, List.map_map]
    unfold nvs ivs
    rw [List.map_map, List.map_map]
    rfl
  -- claims and pieces
  refine ⟨_, rfl, cva, _, rfl, SqT.of (s0 _ _ hcv), rfl, _, _, rfl, _, _, rfl, _, _, rfl, rfl, ?_⟩
  have pX0 : PlanX C xa xca sl ql el H pl xs0 ys0 := pX.same s0
  refine ⟨_, rfl, xa, xdx, xfs, rfl, s0 _ _ hxa, xa, xca, sl, ql, el, pl, xs0, ys0, rfl, pX0, fun l1 H1 s1 n1 h1 => ?_⟩
  have S1 := s0.trans s1
  have ha1 := s1 _ _ ha
  have nl1 : l1 ≠ a := fun z => by rw [z, ha] at n1; cases n1
  -- what is asked
  refine ⟨_, rfl, pa, rows, rfl, S1 _ _ hrw, fun q nq => ?_⟩
  have hq : (upd H1 q (.lst (rows.map fun kv => kV kv.1))) q = some (.lst (nvs (pt.map (·.1)))) := by rw [upd_same, keys]
  have s2 : Same H1 (upd H1 q (.lst (rows.map fun kv => kV kv.1))) := same_new nq
  refine ⟨q, pt.map (·.1), rfl, hq, okp.nd, fun p hp => by have := kn p hp; omega, by rw [List.length_map]; omega, fun H3 s3 => ?_⟩
  have ha3 := s3 _ _ (s2 _ _ ha1)
  have S3 := S1.trans (s2.trans s3)
  have h13 := s3 _ _ (s2 _ _ h1)
  refine ⟨_, rfl, a, CH, dx, _, rfl, ha3, TH.cl, nf _ (by unfold HN; simp), by show 0 < 1000; decide, ?_⟩
  -- cells that pieces touch
  have S4 : Same H0 (upd H3 a (.ins CH dx (putF "asked" (.int (bitsL (pt.map (·.1)) : Nat)) []))) := same_mut S3 n0
  have ha4 : (upd H3 a (.ins CH dx (putF "asked" (.int (bitsL (pt.map (·.1)) : Nat)) []))) a = some (.ins CH dx (putF "asked" (.int (bitsL (pt.map (·.1)) : Nat)) [])) := upd_same
  have h14 : (upd H3 a (.ins CH dx (putF "asked" (.int (bitsL (pt.map (·.1)) : Nat)) []))) l1 = some (.lst ys0) := (upd_ne nl1).trans h13
  generalize upd H3 a (.ins CH dx (putF "asked" (.int (bitsL (pt.map (·.1)) : Nat)) [])) = H4 at S4 ha4 h14 ⊢
  clear s3 s2 h13 ha3 hq nq S3
  have cy : ∀ {Hk H' : Hp} {o o' u : HO} {b : Addr}, Hk a = some o → Same Hk H' → Hk b = some u → b ≠ a → (upd H' a o') b = some u := fun _ s z nb => (upd_ne nb).trans (s _ _ z)
  have pcs : ∀ (i : Nat) (y : V) (H' : Hp), Same H0 H' → ys0[i]? = some y → ∃ (ix : Int) (f : Nat) (ws : List Int), (allP pl.w 0 pl.sts)[i]? = some (ix, (((f : Nat) : Int), ws)) ∧ PieceA H' y (ix, (((f : Nat) : Int), ws)) ∧ f + ws.length ≤ pl.cs.length := fun i y H' s' hy => by
    obtain ⟨⟨ix, pf, ws⟩, e1, e2⟩ := paired_get (pieceA_st s' hps0) hy
    obtain ⟨b0, b1⟩ := ib _ (List.mem_of_getElem? e1)
    have b0 : 0 ≤ pf := b0
    have b1 : pf + (ws.length : Int) ≤ (pl.cs.length : Int) := b1
    obtain ⟨f, rfl⟩ := Int.eq_ofNat_of_zero_le b0
    exact ⟨ix, f, ws, e1, e2, by omega⟩
  refine ⟨_, rfl, l1, rfl, ⟨_, SqL.of h14⟩, fun D1 hD1 => lc_list (K := K) (a := l1) (xs := ys0) (fun i H' => Same H4 H' ∧ H' D1 = some (.lst (nvs (((allP pl.w 0 pl.sts).take i).map (touchP pt))))) ?_ ?_ ?_ ?_⟩
  · exact ⟨same_new hD1, upd_same⟩
  · rintro i H' _ ⟨s5, _⟩
    exact SqL.of (s5 _ _ h14)
  · rintro i y H' hy ⟨s5, h5⟩
    have il : i < ys0.length := (List.getElem?_eq_some_iff.mp hy).1
    have S5 := S4.trans s5
    obtain ⟨ix, f, ws, e1, e2, e3⟩ := pcs i y H' S5 hy
    refine ⟨rfl, _, rfl, _, rfl, y, pa, ix, f, ws, pt, rfl, e2, hpt.same S5, by omega, by omega, fun lc H6 s6 n6 h6 => ⟨lc, _, rfl, h6, (cellsP_asc pt f ws.length).imp fun h => Nat.ne_of_lt h, fun p hp => by have := (cellsP_mem.mp hp).1.2; omega, by have := cellsP_len pt f ws.length; omega, fun H7 s7 => ?_⟩⟩
    refine ⟨_, s7 _ _ (s6 _ _ h5), szl (by rw [nvs_len, List.length_map, List.length_take]; omega), same_mut (s5.trans (s6.trans s7)) hD1, ?_⟩
    rw [upd_same, List.take_add_one, e1, List.map_append, nvs_app]
    rfl
  rintro H5 ⟨s5, h5⟩
  rw [yl, List.take_length] at h5
  have D1a : D1 ≠ a := fun z => by rw [z, ha4] at hD1; cases hD1
  refine ⟨_, rfl, a, CH, dx, _, rfl, s5 _ _ ha4, TH.cl, nf _ (by unfold HN; simp), Nat.lt_of_le_of_lt (len_put (Nat.le_refl _)) (by decide), ?_⟩
  have S6 : Same H0 (upd H5 a (.ins CH dx (putF "touched" (.ref D1) (putF "asked" (.int (bitsL (pt.map (·.1)) : Nat)) [])))) := same_mut (S4.trans s5) n0
  have ha6 : (upd H5 a (.ins CH dx (putF "touched" (.ref D1) (putF "asked" (.int (bitsL (pt.map (·.1)) : Nat)) [])))) a = some (.ins CH dx (putF "touched" (.ref D1) (putF "asked" (.int (bitsL (pt.map (·.1)) : Nat)) []))) := upd_same
  have h16 := cy (o' := .ins CH dx (putF "touched" (.ref D1) (putF "asked" (.int (bitsL (pt.map (·.1)) : Nat)) []))) ha4 s5 h14 nl1
  have hT6 := cy (o' := .ins CH dx (putF "touched" (.ref D1) (putF "asked" (.int (bitsL (pt.map (·.1)) : Nat)) []))) (s5 _ _ ha4) (Same.refl H5) h5 D1a
  generalize upd H5 a (.ins CH dx (putF "touched" (.ref D1) (putF "asked" (.int (bitsL (pt.map (·.1)) : Nat)) []))) = H6 at S6 ha6 h16 hT6 ⊢
  clear h5 s5 hD1 h14 ha4 S4
  -- cells that they spoil
  refine ⟨_, rfl, l1, rfl, ⟨_, SqL.of h16⟩, fun D2 hD2 => lc_list (K := K) (a := l1) (xs := ys0) (fun i H' => Same H6 H' ∧ H' D2 = some (.lst (nvs (((allP pl.w 0 pl.sts).take i).map (spoilM pt))))) ?_ ?_ ?_ ?_⟩
  · exact ⟨same_new hD2, upd_same⟩
  · rintro i H' _ ⟨s5, _⟩
    exact SqL.of (s5 _ _ h16)
  · rintro i y H' hy ⟨s5, h5⟩
    have il : i < ys0.length := (List.getElem?_eq_some_iff.mp hy).1
    have S5 := S6.trans s5
    obtain ⟨ix, f, ws, e1, e2, e3⟩ := pcs i y H' S5 hy
    refine ⟨rfl, _, rfl, _, rfl, y, pa, ix, f, ws, pt, rfl, e2, hpt.same S5, by omega, by omega, fun lc H6 s6 n6 h6 => ⟨lc, _, rfl, h6, (spoilP_asc pt f ws).imp fun h => Nat.ne_of_lt h, fun p hp => by have := (cellsP_mem.mp (List.mem_filter.mp hp).1).1.2; omega, by have h1 := cellsP_len pt f ws.length; have h2 : (spoilP pt f ws).length ≤ (cellsP pt f ws.length).length := List.length_filter_le _ _; omega, fun H7 s7 => ?_⟩⟩
    refine ⟨_, s7 _ _ (s6 _ _ h5), szl (by rw [nvs_len, List.length_map, List.length_take]; omega), same_mut (s5.trans (s6.trans s7)) hD2, ?_⟩
    rw [upd_same, List.take_add_one, e1, List.map_append, nvs_app]
    rfl
  rintro H7 ⟨s7, h7⟩
  rw [yl, List.take_length] at h7
  have D2a : D2 ≠ a := fun z => by rw [z, ha6] at hD2; cases hD2
  refine ⟨_, rfl, a, CH, dx, _, rfl, s7 _ _ ha6, TH.cl, nf _ (by unfold HN; simp), Nat.lt_of_le_of_lt (len_put (len_put (Nat.le_refl _))) (by decide), ?_⟩
  obtain ⟨fs3, e3⟩ : ∃ z, putF "spoiled" (.ref D2) (putF "touched" (.ref D1) (putF "asked" (.int (bitsL (pt.map (·.1)) : Nat)) ([] : List (Str × V)))) = z := ⟨_, rfl⟩
  have l3 : fs3.length ≤ 3 := by rw [← e3]; exact len_put (len_put (len_put (Nat.le_refl _)))
  rw [e3]
  have S8 : Same H0 (upd H7 a (.ins CH dx fs3)) := same_mut (S6.trans s7) n0
  have ha8 : (upd H7 a (.ins CH dx fs3)) a = some (.ins CH dx fs3) := upd_same
  have hT8 := cy (o' := .ins CH dx fs3) ha6 s7 hT6 D1a
  have hP8 := cy (o' := .ins CH dx fs3) (s7 _ _ ha6) (Same.refl H7) h7 D2a
  generalize upd H7 a (.ins CH dx fs3) = H8 at S8 ha8 hT8 hP8 ⊢
  clear h7 s7 hD2 h16 ha6 S6 hT6
  -- what lay there first
  have pcl := rkP_len pl
  refine ⟨_, rfl, _, rfl, .ref xa, pl, sl, ql, el, b, begun, rfl, pF.same S8, S8 _ _ hb, fun p hp => by have := bb p hp; omega, by omega, fun ca H9 s9 h9 => ?_⟩
  have S9 := S8.trans s9
  have len9 := overF_len ib begun pl.cs rfl fun p hp => by have := bb p hp; omega
  have hrw9 := S9 _ _ hrw
  have hrp9 := rows_same S9 hrp
  generalize hcc : overF (allP pl.w 0 pl.sts) pl.cs begun = cc at h9 len9
  refine ⟨pa, _, hrw9, True.intro, fun od => ?_⟩
  obtain ⟨rnd, rf⟩ := row_facts (od := od) hrw9 hrp9 okp
  have rl := paired_len hrp
  refine ⟨_, rfl, pa, od, rfl, .inl ⟨rows, upd_same, fun D hD => lc_it (walk_keys (d := pa) (o := od) (kvs := rows)) (fun i H' => Same (upd H9 pa (.frz od (.dK rows))) H' ∧ H' D = some (.lst (nvs (((pt.take i).filter fun q => !q.2.contains (cc.getD q.1 0)).map (·.1))))) ?_ ?_ ?_ ?_⟩⟩
  · exact ⟨same_new hD, upd_same⟩
  · rintro i H' _ ⟨s1, _⟩
    exact s1 _ _ upd_same
  · rintro i y H' H1' hi ⟨s1', h1'⟩ ⟨rfl, ky, vv, hy, rfl⟩
    obtain ⟨p, tt, hpi, rfl, rfl, ht⟩ := rf i _ _ hy
    have kb := okp.kb p (List.mem_of_getElem? hpi)
    have hc1 : H1' ca = some (.tup (ivs cc)) := s1' _ _ (lock_get hrw9 h9 (fun z => by cases z))
    have fl := List.length_filter_le (fun q : Nat × List Int => !q.2.contains (cc.getD q.1 0)) (pt.take i)
    rw [List.length_take] at fl
    have tk : ((pt.take (i + 1)).filter fun q => !q.2.contains (cc.getD q.1 0)).map (·.1) = ((pt.take i).filter fun q => !q.2.contains (cc.getD q.1 0)).map (·.1) ++ (if (!p.2.contains (cc.getD p.1 0)) = true then [p.1] else []) := by
      rw [List.take_add_one, hpi, List.filter_append, List.map_append]
      congr 1
      by_cases c : (!p.2.contains (cc.getD p.1 0)) = true
      · rw [if_pos c]; simp only [Option.toList_some, List.filter_cons, c]; rfl
      · rw [if_neg c]; simp only [Option.toList_some, List.filter_cons]; rw [if_neg c]; rfl
    refine ⟨rfl, _, rfl, _, rfl, ca, _, _, _, rfl, rfl, .inr hc1, atI_nat (ivs_at (show p.1 < cc.length by omega)), _, rfl, _, rfl, pa, .ref tt, rfl, .inl ⟨rows, .inl ((p.1 : Nat) : Int), .inr ⟨od, s1' _ _ upd_same⟩, rfl, (valV_at rnd hy).symm⟩, ?_⟩
    refine ⟨tt, _, rfl, .inr (SqT.of (s1' _ _ ht)), rfl, flat_ivs _, _, rfl, ?_⟩
    show if (!inV (.int (cc.getD p.1 0)) (ivs p.2)) = true then _ else _
    rw [in_ivs]
    cases c : (!p.2.contains (cc.getD p.1 0)) with
    | true =>
      rw [c, if_pos rfl] at tk
      refine ⟨_, rfl, _, h1', szl (by rw [nvs_len, List.length_map]; omega), same_mut s1' hD, ?_⟩
      rw [upd_same, tk, nvs_app]
      rfl
    | false =>
      rw [c, if_neg (by decide), List.append_nil] at tk
      exact ⟨s1', by rw [tk]; exact h1'⟩
  rintro H10 ⟨s10, h10⟩
  rw [rl, List.take_length] at h10
  have SL := lock_same hrw9 s10
  have nDp : D ≠ pa := fun z => by
    rw [z, upd_same] at hD
    cases hD
  have h11 : (upd H10 pa (.dK rows)) D = some (.lst (nvs (firstP pt cc))) := (upd_ne nDp).trans h10
  have fsub : (firstP pt cc).Sublist (pt.map (·.1)) := (List.filter_sublist (l := pt)).map _
  refine ⟨s10 _ _ upd_same, D, firstP pt cc, rfl, h11, okp.nd.sublist fsub, fun p hp => by have := kn p (fsub.subset hp); omega, by have := fsub.length_le; rw [List.length_map] at this; omega, fun H11 s11 => ?_⟩
  have s911 := s9.trans (SL.trans s11)
  have ha11 := s911 _ _ ha8
  refine ⟨_, rfl, a, CH, dx, _, rfl, ha11, TH.cl, nf _ (by unfold HN; simp), Nat.lt_of_le_of_lt l3 (by decide), ?_⟩
  obtain ⟨fs4, e4⟩ : ∃ z, putF "spoiled_first" (.int (bitsL (firstP pt cc) : Nat)) fs3 = z := ⟨_, rfl⟩
  have l4 : fs4.length ≤ 4 := by rw [← e4]; exact len_put l3
  rw [e4]
  have S12 : Same H0 (upd H11 a (.ins CH dx fs4)) := same_mut (S8.trans s911) n0
  have ha12 : (upd H11 a (.ins CH dx fs4)) a = some (.ins CH dx fs4) := upd_same
  have hT12 := cy (o' := .ins CH dx fs4) ha8 s911 hT8 D1a
  have hP12 := cy (o' := .ins CH dx fs4) ha8 s911 hP8 D2a
  generalize upd H11 a (.ins CH dx fs4) = H12 at S12 ha12 hT12 hP12 ⊢
  clear s911 ha11 s11 fsub h11 SL s10 h10 hD hT8 hP8 ha8 S8 S9 s9 h9 hrw9 hrp9
  -- the epochs
  refine ⟨_, rfl, .ref xa, pl, sl, ql, el, rfl, pF.same S12, fun le H13 s13 n13 h13 => ?_⟩
  have lea : le ≠ a := fun z => by rw [z, ha12] at n13; cases n13
  refine ⟨_, rfl, a, CH, dx, _, rfl, s13 _ _ ha12, TH.cl, nf _ (by unfold HN; simp), Nat.lt_of_le_of_lt l4 (by decide), ?_⟩
  obtain ⟨fs5, e5⟩ : ∃ z, putF "own_epochs" (.ref le) fs4 = z := ⟨_, rfl⟩
  have l5 : fs5.length ≤ 5 := by rw [← e5]; exact len_put l4
  rw [e5]
  have S14 : Same H0 (upd H13 a (.ins CH dx fs5)) := same_mut (S12.trans s13) n0
  have ha14 : (upd H13 a (.ins CH dx fs5)) a = some (.ins CH dx fs5) := upd_same
  have hT14 := cy (o' := .ins CH dx fs5) ha12 s13 hT12 D1a
  have hP14 := cy (o' := .ins CH dx fs5) ha12 s13 hP12 D2a
  have hE14 := cy (o' := .ins CH dx fs5) (s13 _ _ ha12) (Same.refl H13) h13 lea
  generalize upd H13 a (.ins CH dx fs5) = H14 at S14 ha14 hT14 hP14 hE14 ⊢
  clear s13 n13 h13 hT12 hP12 ha12 S12
  -- what is claimed
  refine ⟨_, rfl, .ref cva, Tl, Gl, Dl, t, g, d, rfl, cv.same S14, cl.tl, cl.dl, fun lc H15 cls s15 n15 h15 casc cmem clen => ?_⟩
  have lca : lc ≠ a := fun z => by rw [z, ha14] at n15; cases n15
  refine ⟨_, rfl, a, CH, dx, _, rfl, s15 _ _ ha14, TH.cl, nf _ (by unfold HN; simp), Nat.lt_of_le_of_lt l5 (by decide), ?_⟩
  obtain ⟨fs6, e6⟩ : ∃ z, putF "claimed" (.ref lc) fs5 = z := ⟨_, rfl⟩
  have l6 : fs6.length ≤ 6 := by rw [← e6]; exact len_put l5
  rw [e6]
  have S16 : Same H0 (upd H15 a (.ins CH dx fs6)) := same_mut (S14.trans s15) n0
  have ha16 : (upd H15 a (.ins CH dx fs6)) a = some (.ins CH dx fs6) := upd_same
  have hT16 := cy (o' := .ins CH dx fs6) ha14 s15 hT14 D1a
  have hP16 := cy (o' := .ins CH dx fs6) ha14 s15 hP14 D2a
  have hE16 := cy (o' := .ins CH dx fs6) ha14 s15 hE14 lea
  have hC16 := cy (o' := .ins CH dx fs6) (s15 _ _ ha14) (Same.refl H15) h15 lca
  generalize upd H15 a (.ins CH dx fs6) = H16 at S16 ha16 hT16 hP16 hE16 hC16 ⊢
  clear s15 n15 h15 hT14 hP14 hE14 ha14 S14
  -- what must come later
  refine ⟨_, rfl, _, rfl, .ref xa, pl, sl, ql, el, d, cxs, Dl, rfl, pF.same S16, S16 _ _ hDl, pairs_same S16 hDp, fun e he => ⟨(cl.db e he).1, (cl.db e he).2.1⟩, fun lL H17 ms s17 n17 h17 msl msb => ?_⟩
  have lLa : lL ≠ a := fun z => by rw [z, ha16] at n17; cases n17
  refine ⟨_, rfl, a, CH, dx, _, rfl, s17 _ _ ha16, TH.cl, nf _ (by unfold HN; simp), Nat.lt_of_le_of_lt l6 (by decide), ?_⟩
  obtain ⟨fs7, e7⟩ : ∃ z, putF "later" (.ref lL) fs6 = z := ⟨_, rfl⟩
  have l7 : fs7.length ≤ 7 := by rw [← e7]; exact len_put l6
  rw [e7]
  have S18 : Same H0 (upd H17 a (.ins CH dx fs7)) := same_mut (S16.trans s17) n0
  have ha18 : (upd H17 a (.ins CH dx fs7)) a = some (.ins CH dx fs7) := upd_same
  have hT18 := cy (o' := .ins CH dx fs7) ha16 s17 hT16 D1a
  have hP37 := cy (o' := .ins CH dx fs7) ha16 s17 hP16 D2a
  have hE18 := cy (o' := .ins CH dx fs7) ha16 s17 hE16 lea
  have hC18 := cy (o' := .ins CH dx fs7) ha16 s17 hC16 lca
  have hL18 := cy (o' := .ins CH dx fs7) (s17 _ _ ha16) (Same.refl H17) h17 lLa
  generalize upd H17 a (.ins CH dx fs7) = H18 at S18 ha18 hT18 hP37 hE18 hC18 hL18 ⊢
  clear s17 n17 h17 hT16 hP16 hE16 hC16 ha16 S16
  -- the epochs' pieces
  refine ⟨_, rfl, xa, xdx, xfs, rfl, S18 _ _ hxa, xa, xca, sl, ql, el, pl, xs0, ys0, rfl, pX.same S18, ?_⟩
  have bs : bars pl.sts ≤ 40 := Nat.le_trans List.countP_le_length pF.ok.sl
  refine ⟨_, rfl, by omega, by omega, fun D8 hD8 => lc_range (lo := 0) (fun i H' => ∃ as : List Addr, as.length = i ∧ as.Nodup ∧ (∀ x ∈ as, H18 x = none ∧ x ≠ D8 ∧ H' x = some (.lst [])) ∧ Same H18 H' ∧ H' D8 = some (.lst (as.map V.ref))) ?_ ?_ ?_⟩
  · exact ⟨[], rfl, List.Pairwise.nil, fun _ h => (by cases h), same_new hD8, upd_same⟩
  · rintro i H' hi ⟨as, al, and, ax, s19, h19⟩
    refine ⟨rfl, szr, fun p H'' np sp hp => ?_⟩
    refine ⟨_, sp _ _ h19, szl (by rw [List.length_map]; omega), as ++ [p], by rw [List.length_append, al]; rfl, ?_, fun x hx => ?_, same_mut (s19.trans sp) hD8, ?_⟩
    · refine List.pairwise_append.mpr ⟨and, by simp, fun x hx y hy z => ?_⟩
      rw [List.mem_singleton.mp hy] at z
      have := (ax x hx).2.2
      rw [z, np] at this
      cases this
    · have pD : p ≠ D8 := fun z => by rw [z, h19] at np; cases np
      rcases List.mem_append.mp hx with hx | hx
      · obtain ⟨a1, a2, a3⟩ := ax x hx
        exact ⟨a1, a2, (upd_ne a2).trans (sp _ _ a3)⟩
      · rw [List.mem_singleton.mp hx]
        exact ⟨s19.free np, pD, (upd_ne pD).trans hp⟩
    · rw [upd_same, List.map_append]
      rfl
  rintro H19 ⟨as, al, and, ax, s19, h19⟩
  have al : as.length = bars pl.sts + 1 := by rw [al]; omega
  have D8a : D8 ≠ a := fun z => by rw [z, ha18] at hD8; cases hD8
  have asa : a ∉ as := fun m => by have := (ax a m).1; rw [ha18] at this; cases this
  refine ⟨_, rfl, a, CH, dx, _, rfl, s19 _ _ ha18, TH.cl, nf _ (by unfold HN; simp), Nat.lt_of_le_of_lt l7 (by decide), ?_⟩
  obtain ⟨fs8, e8⟩ : ∃ z, putF "members" (.ref D8) fs7 = z := ⟨_, rfl⟩
  rw [e8]
  have FL : FldH fs8 (.int (bitsL (pt.map (·.1)) : Nat)) (.ref D1) (.ref D2) (.int (bitsL (firstP pt cc) : Nat)) (.ref le) (.ref lc) (.ref lL) (.ref D8) := by
    rw [← e8, ← e7, ← e6, ← e5, ← e4, ← e3]
    refine ⟨?_, ?_, ?_, ?_, ?_, ?_, ?_, ?_, ?_⟩
    · exact put_no (put_no (put_no (put_no (put_no (put_no (put_no put_at))))))
    · exact put_no (put_no (put_no (put_no (put_no (put_no put_at)))))
    · exact put_no (put_no (put_no (put_no (put_no put_at))))
    · exact put_no (put_no (put_no (put_no put_at)))
    · exact put_no (put_no (put_no put_at))
    · exact put_no (put_no put_at)
    · exact put_no put_at
    · exact put_at
    · repeat' rw [lookup_putF, if_neg (by decide +kernel)]
      rfl
  have S20 : Same H0 (upd H19 a (.ins CH dx fs8)) := same_mut (S18.trans s19) n0
  have ha20 : (upd H19 a (.ins CH dx fs8)) a = some (.ins CH dx fs8) := upd_same
  have hT20 := cy (o' := .ins CH dx fs8) ha18 s19 hT18 D1a
  have hP20 := cy (o' := .ins CH dx fs8) ha18 s19 hP37 D2a
  have hE20 := cy (o' := .ins CH dx fs8) ha18 s19 hE18 lea
  have hC20 := cy (o' := .ins CH dx fs8) ha18 s19 hC18 lca
  have hL20 := cy (o' := .ins CH dx fs8) ha18 s19 hL18 lLa
  have h820 := cy (o' := .ins CH dx fs8) (s19 _ _ ha18) (Same.refl H19) h19 D8a
  have am20 : ∀ x ∈ as, (upd H19 a (.ins CH dx fs8)) x = some (.lst []) := fun x hx => (upd_ne (fun z : x = a => asa (by rw [← z]; exact hx))).trans (ax x hx).2.2
  have na : ∀ {c : Addr} {u : HO}, H18 c = some u → c ∉ as := fun z m => by rw [(ax _ m).1] at z; cases z
  have nD1 := na hT18
  have nD2 := na hP37
  have nle := na hE18
  have nlc := na hC18
  have nlL := na hL18
  have nD8 : D8 ∉ as := fun m => (ax D8 m).2.1 rfl
  have n0s : ∀ {c : Addr} {u : HO}, H0 c = some u → c ∉ as := fun z => na (S18 _ _ z)
  generalize upd H19 a (.ins CH dx fs8) = H20 at S20 ha20 hT20 hP20 hE20 hC20 hL20 h820 am20 ⊢
  have hh : ∀ {c : Addr} {u : HO} {H' : Hp}, Same (hl as H20) H' → H20 c = some u → c ∉ as → H' c = some u := fun s' z m => s' _ _ ((hl_at m).trans z)
  have S0h : ∀ {H' : Hp}, Same (hl as H20) H' → Same H0 H' := fun s' c u z => s' _ _ ((hl_at (n0s z)).trans (S20 _ _ z))
  have e39 : (rkP pl).length ≤ 40 := by omega
  refine ⟨_, rfl, a, CH, dx, fs8, _, rfl, ha20, TH.cl, nf _ (by unfold HN; simp), FL.f5, le, _, rfl, SqL.of hE20, for_enum (K := K) (a := le) (xs := ivs (rkP pl)) (fun i σ' H' => ∃ v10 v11, σ' = [some (.ref a), some (.ref xa), some (.ref pa), some (.ref cva), some (.ref b), some (.ref t), some (.ref g), some (.ref d), some (.ref l1), some (.ref ca), v10, v11, none] ∧ Same (hl as H20) H' ∧ ∀ k (hk : k < as.length), H' as[k] = some (.lst (nvs (memL (rkP pl) Gl begun k i)))) ?_ ?_ ?_ ?_⟩
  · exact ⟨_, _, rfl, fun c u z => by
      unfold hl at z
      split at z
      · cases z
      · exact z, fun k hk => am20 _ (List.getElem_mem hk)⟩
  · rintro i σ' H' hi ⟨v10, v11, rfl, s21, _⟩
    exact SqL.of (hh s21 hE20 nle)
  · rintro i x T' σ' H' hx ⟨v10, v11, rfl, s21, hm⟩ hT'
    have il : i < (rkP pl).length := by rw [← ivs_len]; exact (List.getElem?_eq_some_iff.mp hx).1
    rw [gE_get il] at hx
    cases hx
    have s22 : Same H' (upd H' T' (.tup [.int (i : Nat), .int (gE (rkP pl) i)])) := same_new hT'
    have S22 := s21.trans s22
    refine ⟨T', _, rfl, SqT.of upd_same, rfl, _, _, rfl, _, _, rfl, rfl, ?_⟩
    obtain ⟨e, ee, elt⟩ := rk_in il
    have hm22 : ∀ k (hk : k < as.length), (upd H' T' (.tup [.int (i : Nat), .int (gE (rkP pl) i)])) as[k] = some (.lst (nvs (memL (rkP pl) Gl begun k i))) := fun k hk => s22 _ _ (hm k hk)
    generalize upd H' T' (.tup [.int (i : Nat), .int (gE (rkP pl) i)]) = H22 at S22 hm22 ⊢
    have hG22 := S0h S22 _ _ hG
    have hb22 := S0h S22 _ _ hb
    have i1 : (!inV (.int ((i : Nat) : Int)) (nvs Gl)) = !Gl.contains i := by rw [in_nvs]
    have i2 : (!inV (.int ((i : Nat) : Int)) (nvs begun)) = !begun.contains i := by rw [in_nvs]
    have stay : (!Gl.contains i && !begun.contains i) = false → ∃ v10 v11, [some (V.ref a), some (.ref xa), some (.ref pa), some (.ref cva), some (.ref b), some (.ref t), some (.ref g), some (.ref d), some (.ref l1), some (.ref ca), some (.int ((i : Nat) : Int)), some (.int (gE (rkP pl) i)), none] = [some (.ref a), some (.ref xa), some (.ref pa), some (.ref cva), some (.ref b), some (.ref t), some (.ref g), some (.ref d), some (.ref l1), some (.ref ca), v10, v11, none] ∧ Same (hl as H20) H22 ∧ ∀ k (hk : k < as.length), H22 as[k] = some (.lst (nvs (memL (rkP pl) Gl begun k (i + 1)))) := fun z => ⟨_, _, rfl, S22, fun k hk => by
      rw [memL_succ, Bool.and_assoc, z, Bool.and_false, if_neg (by decide), List.append_nil]
      exact hm22 k hk⟩
    refine ⟨_, rfl, _, rfl, g, _, rfl, .inl (SqL.of hG22), rfl, flat_ivs _, _, rfl, ?_⟩
    show if (!inV (.int ((i : Nat) : Int)) (nvs Gl)) = true then _ else _
    rw [i1]
    cases cG : Gl.contains i with
    | true => exact iteF' (by rfl) (stay (by rw [cG]; rfl))
    | false =>
      refine iteT' (by rfl) ?_
      refine ⟨_, rfl, _, rfl, b, _, rfl, .inl (SqL.of hb22), rfl, flat_ivs _, _, rfl, ?_⟩
      show if (!inV (.int ((i : Nat) : Int)) (nvs begun)) = true then _ else _
      rw [i2]
      cases cB : begun.contains i with
      | true => exact iteF' (by rfl) (stay (by rw [cG, cB]; rfl))
      | false =>
        refine iteT' (by rfl) ?_
        have ela : e < as.length := by omega
        have at8 : atI (as.map V.ref) (gE (rkP pl) i) = some (.ref as[e]) := by
          rw [ee]
          refine atI_nat ?_
          rw [List.getElem?_map, List.getElem?_eq_getElem ela]
          rfl
        refine ⟨_, rfl, a, CH, dx, fs8, _, rfl, hh S22 ha20 asa, TH.cl, nf _ (by unfold HN; simp), FL.f8, _, rfl, D8, _, _, _, rfl, rfl, .inl (hh S22 h820 nD8), at8, ?_⟩
        refine ⟨.inl ⟨rfl, _, SqL.of (hm22 e ela)⟩, _, rfl, as[e], _, _, rfl, rfl, hm22 e ela, szl (by rw [nvs_len]; have := memL_len (rkP pl) Gl begun e i; omega), ?_⟩
        refine ⟨_, _, rfl, fun c u z => ?_, fun k hk => ?_⟩
        · have nc := hl_not z
          rw [upd_ne fun q => nc (by rw [q]; exact List.getElem_mem ela)]
          exact S22 _ _ z
        · rw [memL_succ, cG, cB]
          by_cases ke : k = e
          · subst ke
            rw [upd_same, if_pos (by rw [ee]; simp), nvs_app]
            rfl
          · have ne : as[k] ≠ as[e] := fun q => ke ((List.getElem_inj (h₀ := hk) (h₁ := ela) and).mp q)
            rw [upd_ne ne, if_neg (by rw [ee]; simp; omega), List.append_nil]
            exact hm22 k hk
  · rintro σ' H' ⟨v10, v11, rfl, s21, hm⟩
    rw [ivs_len] at hm
    refine k H' ⟨bitsL (pt.map (·.1)), bitsL (firstP pt cc), (allP pl.w 0 pl.sts).map (touchP pt), (allP pl.w 0 pl.sts).map (spoilM pt), ms, cls, rkP pl, (List.range (bars pl.sts + 1)).map fun k => memL (rkP pl) Gl begun k (rkP pl).length⟩ (S0h s21) ⟨a, dx, fs8, D1, D2, le, lc, lL, D8, as.map V.ref, rfl, hh s21 ha20 asa, FL, hh s21 hT20 nD1, hh s21 hP20 nD2, hh s21 hE20 nle, hh s21 hC20 nlc, hh s21 hL20 nlL, hh s21 h820 nD8, ?_⟩ ⟨rfl, by rw [hcc], rfl, rfl, rfl, cmem, msb, rfl, ?_⟩
    · show Paired (RefL H') (as.map V.ref) ((List.range (bars pl.sts + 1)).map fun k => memL (rkP pl) Gl begun k (rkP pl).length)
      rw [← al, List.range_eq_range']
      exact paired_range (R := RefL H') _ as 0 fun k hk => ⟨as[k], rfl, by rw [Nat.zero_add]; exact hm k hk⟩
    · refine ⟨e39, ?_, ?_, msl, rfl, clen, ?_, ?_⟩
      · show ((allP pl.w 0 pl.sts).map _).length = _
        rw [List.length_map, pcl]
      · show ((allP pl.w 0 pl.sts).map _).length = _
        rw [List.length_map, pcl]
      · intro l hl' p hp
        obtain ⟨k', _, rfl⟩ := List.mem_map.mp hl'
        exact List.mem_range.mp (List.mem_filter.mp hp).1
      · intro l hl'
        obtain ⟨k', _, rfl⟩ := List.mem_map.mp hl'
        exact List.pairwise_lt_range.filter _
end
end Af

set_option Elab.async false
set_option linter.all false
set_option maxRecDepth 100000
set_option maxHeartbeats 4000000
namespace Af
open PySem L2
abbrev s_fall_behind : Stmt := top 50
abbrev N_fall_behind : List Str := ["plan", "pattern", "claims", "begun", "hunt", "epoch", "order", "_"]
theorem sc_fall_behind : FnScope N_fall_behind ["plan", "pattern", "claims", "begun"] (defScope s_fall_behind) := ⟨rfl, rfl, rfl, by decide +kernel, rfl, by decide +kernel, by decide +kernel⟩

def okE (es : List Int) (T G : List Nat) (D : List (Nat × Nat)) (e : Nat) : Bool := !((decide (0 < e) && !es.contains (e : Int)) || misB es T G D (e : Int))
/-- what fall_behind finds behind what has begun -/
def fbO (h : Hd) (pl : Pl) (T G : List Nat) (D : List (Nat × Nat)) (begun : List Nat) : Option (List Nat) := findF (okE (rkP pl) T G D) (huntH h) (lastN (rkP pl) begun) (bars pl.sts + 1 - lastN (rkP pl) begun)
def sp_fb (C : Addr) : Sp := fun vs H Q _ => ∃ (pa b : Addr) (x v : V) (pl : Pl) (sl ql el t g d : Addr) (pt : Ptn) (Tl Gl : List Nat) (Dl : List (Nat × Nat)) (begun : List Nat), vs = [x, .ref pa, v, .ref b] ∧ PlanF C H x pl sl ql el ∧ PatV H pa pt ∧ OkPt pl.cs.length pt ∧
  ClV H v Tl Gl Dl t g d ∧ Cw (rkP pl) Tl Gl Dl ∧ FlV C H x pl sl ql el b begun ∧ begun.length ≤ 40 ∧ (mayB Gl Dl begun = false → ∀ H', Same H H' → Q .non H') ∧ (mayB Gl Dl begun = true → ∀ v' H' h, Same H H' → HdOk h pl pt Tl Gl Dl begun → GoV H' v' ((fbO h pl Tl Gl Dl begun).map (begun ++ ·)) → (∀ l, v' = .ref l → H l = none) → Q v' H')
theorem stg40 (h : Hd) (n k un : Nat) (ok : OkH n h) (lt : k < h.ms.length) : (stgH h k un).1.length ≤ 40 := by
  have em : memF h k = h.ms[k] := by unfold memF; rw [List.getD_eq_getElem?_getD, List.getElem?_eq_getElem lt]; rfl
  have nd : (memF h k).Nodup := by rw [em]; exact (ok.ma _ (List.getElem_mem lt)).imp fun h => Nat.ne_of_lt h
  have P0 : Placed (gM h.ss) (gM h.ts) (gM h.ls) (memF h k) un (stgH h k un) := place_ok nd _ _ _ _ _ (Plc.start (bitsL_bit nd)) nd (fun j => by simp) (by simp) (Nat.zero_le _)
  obtain ⟨⟨_, pc⟩, _, _⟩ := P0
  have := nodup_le (b := List.range n) pc.nd fun p hp => List.mem_range.mpr (by
    have m := pc.sub p hp
    rw [em] at m
    exact ok.mb _ (List.getElem_mem lt) p m)
  rw [List.length_range] at this
  have := ok.n40
  omega
theorem go_len (h : Hd) {n : Nat} (ok : OkH n h) (sure : Nat → Bool) : ∀ (e : Nat) (ord : List Nat) (un : Nat) (o' : List Nat) (u' : Nat), e < h.ms.length → goF (gM h.ss) (gM h.ts) (gM h.ls) (memF h) (fun k => bitsL (memF h k)) sure (downs e) ord un = some (o', u') → o'.length ≤ ord.length + 40 * (e + 1)
  | 0, ord, un, o', u', lt, c => by
    have c : (if (stgH h 0 un).2.1.any sure = true then none else some (ord ++ (stgH h 0 un).1, (stgH h 0 un).2.2)) = some (o', u') := c
    have l := stg40 h n 0 un ok lt
    split at c
    · cases c
    · cases c
      rw [List.length_append]
      omega
  | e + 1, ord, un, o', u', lt, c => by
    have c : (if (stgH h (e + 1) un).2.1.any sure = true then none else goF (gM h.ss) (gM h.ts) (gM h.ls) (memF h) (fun k => bitsL (memF h k)) sure (downs e) (ord ++ (stgH h (e + 1) un).1) (stgH h (e + 1) un).2.2) = some (o', u') := c
    have l := stg40 h n (e + 1) un ok lt
    split at c
    · cases c
    · have := go_len h ok sure e _ _ _ _ (by omega) c
      rw [List.length_append] at this
      omega
theorem goodlen (h : Hd) (e : Nat) (r : List Nat) {n : Nat} (ok : OkH n h) (el : e < h.ms.length) (e40 : e ≤ 40) (c : huntH h e = some r) : r.length ≤ 2000 := by
  unfold huntH huntO at c
  cases g : goF (gM h.ss) (gM h.ts) (gM h.ls) (memF h) (fun k => bitsL (memF h k)) (sureH h e) (downs e) [] h.asked with
  | none => rw [g] at c; cases c
  | some q =>
    obtain ⟨o, u⟩ := q
    rw [g] at c
    have c : (if h.first &&& u = 0 then some o.reverse else none) = some r := c
    have l := go_len h ok _ e _ _ _ _ el g
    split at c
    · cases c
      rw [List.length_reverse]
      have : ([] : List Nat).length = 0 := rfl
      omega
    · cases c
theorem gE_nn (pl : Pl) (j : Nat) : 0 ≤ gE (rkP pl) j := by
  unfold gE
  rw [List.getD_eq_getElem?_getD]
  by_cases h : j < (rkP pl).length
  · rw [List.getElem?_eq_getElem h]
    show 0 ≤ (rkP pl)[j]
    obtain ⟨p, _, e⟩ := List.mem_map.mp (show (rkP pl)[j] ∈ (allP pl.w 0 pl.sts).map _ from List.getElem_mem h)
    rw [← e]
    omega
  · rw [List.getElem?_eq_none (by omega)]
    exact Int.le_refl _
section
variable {P : Program} {w : World} {K : PySem.W.Frag} {mg : Str → Option Value} {base : Heap}
theorem ok_fb {f CH C fH : Addr} {fd fdH : FuncData} (F : Fun K "fall_behind" "fall_behind" s_fall_behind f fd) (T : Txt mg) (TC : PlanC K mg C) (TH : ObjC K mg "Hunt" CH HN) (P_epochs : PropC P w K mg base C "epochs" (sp_p_epochs C))
    (M_Hunt : Mk K CH fH) (G_Hunt : FnOk P w K mg base CX0 6 fH fdH ["self", "plan", "pattern", "claims", "begun"] (sp_hinit CH C)) (b_Hunt : Binds K fdH ["self", "plan", "pattern", "claims", "begun"] [])
    (c_may_begin : Cal P w K mg base 1 "may_begin" ["claims", "fall"] sp_may) (c_last_epoch : Cal P w K mg base 4 "last_epoch" ["plan", "fall"] (sp_last C)) (c_misplaced_in : Cal P w K mg base 4 "misplaced_in" ["plan", "claims", "epoch"] (sp_mis C))
    (c_go_back : Cal P w K mg base 3 "_go_back" ["hunt", "epoch"] (sp_go CH)) : FnOk P w K mg base CX0 8 f fd ["plan", "pattern", "claims", "begun"] (sp_fb C) := by
  refine F.ok sc_fall_behind (fun vs H Q E h => ?_) (fun cdv A outer s H vs Q E hr h => ?_)
  · obtain ⟨_, _, _, _, _, _, _, _, _, _, _, _, _, _, _, _, rfl, _⟩ := h
    rfl
  obtain ⟨pa, b, x, v, pl, sl, ql, el, t, g, d, pt, Tl, Gl, Dl, begun, rfl, pF, hpt, okp, cv, cl, fl, bl, kf, k⟩ := h
  refine ⟨_, (pss_cons (ps_if (pt_not (pt_val (pe_cal c_may_begin hr (pa_cons (pv 2) (pa_cons (pv 3) pa_nil)))))
      (pss_one (ps_ret pe_non))
      pss_nil)
    (pss_cons (ps_set (i := 4) sc_fall_behind.nd rfl (Or.inl rfl) (pe_make M_Hunt G_Hunt (hr.mono (by decide)) rfl TH.mgC b_Hunt .nil pass0 (pa_cons (pv 0) (pa_cons (pv 1) (pa_cons (pv 2) (pa_cons (pv 3) pa_nil))))))
    (pss_cons (ps_for PassesOwn.never rfl (pi_range2 rfl T.range (pa_cons (pe_cal c_last_epoch hr (pa_cons (pv 0) (pa_cons (pv 3) pa_nil))) (pa_cons (pe_propC TC.cl P_epochs hr (pv 0)) pa_nil))) (pg_name (i := 5) sc_fall_behind.nd rfl (Or.inl rfl))
      (pss_cons (ps_cut (ps_if (PW.pt (pw_or (PW.pt (pw_and (pt_cmpR op_gt (pv 5) pe_int (nomark _)) (pw_and1 (pt_cmpR op_notIn_seq (pv 5) (pe_fld (pv 4) rfl) (by rfl))))) (pw_or1 (pt_cmpR op_notN (pe_cal c_misplaced_in hr (pa_cons (pv 0) (pa_cons (pv 2) (pa_cons (pv 5) pa_nil)))) pe_non (nomark _)))))
      (pss_one ps_continue)
      pss_nil))
    (pss_cons (ps_asg (pe_cal c_go_back hr (pa_cons (pv 4) (pa_cons (pv 5) pa_nil))) (pg_tup rfl (pgs_cons (pg_name (i := 6) sc_fall_behind.nd rfl (Or.inl rfl)) (pgs_cons (pg_name (i := 7) sc_fall_behind.nd rfl (Or.inl rfl)) pgs_nil))))
    (pss_one (ps_if (pt_cmpR op_notN (pv 6) pe_non (nomark _))
      (pss_one (ps_ret (pe_op op_cat' (pv 3) (pv 6))))
      pss_nil)))))
    (pss_one (ps_ret pe_non))))), ?_⟩
  have hb := fl.hb
  have last0 : (lastE (rkP pl) begun) = (lastN (rkP pl) begun : Int) := by
    unfold lastE
    rcases List.eq_nil_or_concat begun with e | ⟨X, q, e⟩
    · rw [e]; rfl
    · have e : begun = X ++ [q] := by rw [e]; simp
      rw [e, lastN_snoc, if_neg (by simp)]
      have : (X ++ [q]).getD ((X ++ [q]).length - 1) 0 = q := by simp
      rw [this]
      have := gE_nn pl q
      omega
  have lastB : lastN (rkP pl) begun ≤ bars pl.sts := by
    rcases List.eq_nil_or_concat begun with e | ⟨X, q, e⟩
    · rw [e]; exact Nat.zero_le _
    · have e : begun = X ++ [q] := by rw [e]; simp
      have := fl.lb q (by rw [e]; simp)
      obtain ⟨z, h1, h2⟩ := rk_in this
      rw [e, lastN_snoc]
      omega
  have bs : bars pl.sts ≤ 40 := Nat.le_trans List.countP_le_length pF.ok.sl
  refine ⟨_, rfl, _, rfl, v, Tl, Gl, Dl, t, g, d, b, begun, rfl, cv, cl.gl, cl.dl, hb, by omega, fun H1 s1 => ⟨_, rfl, ?_⟩⟩
  cases cm : mayB Gl Dl begun with
  | false => exact iteT' (by rfl) (kf cm H1 s1)
  | true =>
  refine iteF' (by rfl) ?_
  have k := k cm
  refine ⟨_, rfl, _, rfl, _, rfl, _, rfl, fun y dy hy hdy ndy => ?_⟩
  have s0 : Same H1 (upd (upd H1 dy (.own y)) y (.ins CH dy [])) := fun c o z => by
    rw [upd_ne (ne_of_none z hy), upd_ne (ne_of_none z hdy)]
    exact z
  refine ⟨H1, y, dy, pa, b, x, v, pl, sl, ql, el, t, g, d, pt, Tl, Gl, Dl, begun, rfl, upd_same, hy, s0, pF.same s1, hpt.same s1, okp, cv.same s1, cl, s1 _ _ hb, fl.lb, bl, fun H3 h s3 hv hdo => ⟨rfl, ?_⟩⟩
  have S3 := s1.trans s3
  obtain ⟨xa, xca, xdx, xfs, xs0, ys0, rfl, pX, _, _, _, hxa⟩ := pF.x
  have fl3 := fl.same S3
  refine ⟨_, rfl, _, rfl, .ref xa, pl, sl, ql, el, b, begun, rfl, fl3, fun H4 s4 => ?_⟩
  have S4 := S3.trans s4
  refine ⟨_, rfl, xa, xdx, xfs, rfl, S4 _ _ hxa, xa, xca, sl, ql, el, pl, xs0, ys0, rfl, pX.same S4, ?_⟩
  rw [last0]
  obtain ⟨ha', hdx, hfs, hta, hsa, hea, hca, hla, hma, hmls, ey, hha, hfl, hts, hss, hes, hcl, hls, hms, hmm⟩ := hv.ex
  cases ey
  have nf : ∀ f ∈ HN, NoAttr K CH f := TH.no
  have hml : h.ms.length = bars pl.sts + 1 := by rw [hdo.ms, List.length_map, List.length_range]
  have mono : ∀ v' H' h', Same H4 H' → h' = h → GoV H' v' ((fbO h' pl Tl Gl Dl begun).map (begun ++ ·)) → (∀ l, v' = .ref l → H4 l = none) → Q v' H' := fun v' H' h' s' e gv nl => by
    subst e
    exact k v' H' h' (S4.trans s') hdo gv fun l z => S4.free (nl l z)
  refine ⟨_, _, rfl, by omega, for_range (lo := (lastN (rkP pl) begun : Int)) (fun i σ' H' => ∃ v5 v6 v7, σ' = [some (.ref xa), some (.ref pa), some v, some (.ref b), some (.ref y), v5, v6, v7] ∧ Same H4 H' ∧ findF (okE (rkP pl) Tl Gl Dl) (huntH h) (lastN (rkP pl) begun + i) (bars pl.sts + 1 - lastN (rkP pl) begun - i) = fbO h pl Tl Gl Dl begun) ?_ ?_ ?_⟩
  · exact ⟨_, _, _, rfl, Same.refl _, rfl⟩
  · rintro i σ' H5 hi ⟨v5, v6, v7, rfl, s5, fe⟩
    have il : i < bars pl.sts + 1 - lastN (rkP pl) begun := by omega
    obtain ⟨kk, ek⟩ : ∃ kk, bars pl.sts + 1 - lastN (rkP pl) begun - i = kk + 1 := ⟨bars pl.sts + 1 - lastN (rkP pl) begun - i - 1, by omega⟩
    have ek2 : bars pl.sts + 1 - lastN (rkP pl) begun - (i + 1) = kk := by omega
    rw [ek] at fe
    unfold findF at fe
    have eE : ((lastN (rkP pl) begun : Int) + (i : Int)) = ((lastN (rkP pl) begun + i : Nat) : Int) := rfl
    rw [eE]
    have eL : lastN (rkP pl) begun + i < bars pl.sts + 1 := by omega
    generalize hee : lastN (rkP pl) begun + i = e at fe eL ⊢
    have S5 := S4.trans s5
    have skip : okE (rkP pl) Tl Gl Dl e = false → ∀ (H6 : Hp) (w6 w7 : Option V), Same H4 H6 → ∃ v5 v6 v7, [some (V.ref xa), some (.ref pa), some v, some (.ref b), some (.ref y), some (.int ((e : Nat) : Int)), w6, w7] = [some (.ref xa), some (.ref pa), some v, some (.ref b), some (.ref y), v5, v6, v7] ∧ Same H4 H6 ∧ findF (okE (rkP pl) Tl Gl Dl) (huntH h) (lastN (rkP pl) begun + (i + 1)) (bars pl.sts + 1 - lastN (rkP pl) begun - (i + 1)) = fbO h pl Tl Gl Dl begun := fun z H6 w6 w7 s6 => by
      refine ⟨_, _, _, rfl, s6, ?_⟩
      rw [z, if_neg (by decide)] at fe
      rw [ek2, ← fe, ← hee, Nat.add_assoc]
    refine ⟨fun σ' H' => σ' = [some (.ref xa), some (.ref pa), some v, some (.ref b), some (.ref y), some (.int ((e : Nat) : Int)), v6, v7] ∧ Same H4 H' ∧ okE (rkP pl) Tl Gl Dl e = true, ?_, ?_⟩
    · refine ⟨_, rfl, _, _, rfl, rfl, _, rfl, ?_⟩
      by_cases c1 : 0 < e
      · refine iteT' (decide_eq_true (by omega)) ?_
        refine ⟨_, rfl, _, rfl, y, CH, hdx, hfs, _, rfl, s5 _ _ (s4 _ _ hha), TH.cl, nf _ (by unfold HN; simp), hfl.f5, hea, _, rfl, .inl (SqL.of (s5 _ _ (s4 _ _ hes))), rfl, flat_ivs _, _, rfl, ?_⟩
        show if (!inV (.int ((e : Nat) : Int)) (ivs h.es)) = true then _ else _
        rw [in_ivs, hdo.es]
        cases c2 : (rkP pl).contains ((e : Nat) : Int) with
        | false => exact iteT' (by rfl) (skip (by unfold okE; rw [c2, decide_eq_true c1]; rfl) H5 _ _ s5)
        | true =>
          have fst : (decide (0 < e) && !(rkP pl).contains ((e : Nat) : Int)) = false := by rw [c2, Bool.not_true, Bool.and_false]
          refine iteF' (by rfl) ?_
          refine ⟨_, rfl, _, rfl, _, rfl, .ref xa, v, pl, sl, ql, el, Tl, Gl, Dl, t, g, d, ((e : Nat) : Int), rfl, pF.same S5, cv.same S5, cl, fun mf H6 s6 => ⟨rfl, _, rfl, ?_⟩, fun mt q ys H6 s6 hq => ⟨rfl, _, rfl, ?_⟩⟩
          · exact iteF' (by simp) ⟨rfl, s5.trans s6, by unfold okE; rw [mf, fst]; rfl⟩
          · exact iteT' (by simp) (skip (by unfold okE; rw [mt, Bool.or_true]; rfl) H6 _ _ (s5.trans s6))
      · refine iteF' (decide_eq_false (by omega)) ?_
        have fst : (decide (0 < e) && !(rkP pl).contains ((e : Nat) : Int)) = false := by rw [decide_eq_false c1, Bool.false_and]
        refine ⟨_, rfl, _, rfl, _, rfl, .ref xa, v, pl, sl, ql, el, Tl, Gl, Dl, t, g, d, ((e : Nat) : Int), rfl, pF.same S5, cv.same S5, cl, fun mf H6 s6 => ⟨rfl, _, rfl, ?_⟩, fun mt q ys H6 s6 hq => ⟨rfl, _, rfl, ?_⟩⟩
        · exact iteF' (by simp) ⟨rfl, s5.trans s6, by unfold okE; rw [mf, fst]; rfl⟩
        · exact iteT' (by simp) (skip (by unfold okE; rw [mt, Bool.or_true]; rfl) H6 _ _ (s5.trans s6))
    rintro _ H6 ⟨rfl, s6, oke⟩
    rw [oke, if_pos rfl] at fe
    have S6 := S4.trans s6
    refine ⟨_, rfl, _, rfl, .ref y, h, (rkP pl).length, e, rfl, (hv.same s4).same s6, hdo.ok, by omega, by omega, fun tt w6 dd H7 s7 ht gv nfr => ⟨tt, _, rfl, SqT.of ht, rfl, _, _, rfl, _, _, rfl, rfl, ?_⟩⟩
    have S7 := S6.trans s7
    cases ch : huntH h e with
    | none =>
      rw [ch] at fe gv
      have gv : w6 = .non := gv
      subst gv
      refine ⟨_, rfl, rfl, _, rfl, iteF' (by simp) ⟨_, _, _, rfl, s6.trans s7, ?_⟩⟩
      rw [ek2, ← Nat.add_assoc, hee]
      exact fe
    | some r =>
      rw [ch] at fe gv
      obtain ⟨l, rfl, hl⟩ := gv
      have rl := goodlen h e r hdo.ok (by omega) (by omega) ch
      refine ⟨_, rfl, rfl, _, rfl, iteT' (by simp) ?_⟩
      refine ⟨_, rfl, _, rfl, b, l, _, _, rfl, rfl, S7 _ _ hb, hl, sz (by rw [nvs_len, nvs_len]; omega), fun q H8 n8 s8 h8 => ?_⟩
      refine mono (.ref q) H8 h (s6.trans (s7.trans s8)) rfl ?_ fun l' z => (by cases z; exact (s6.trans s7).free n8)
      rw [← fe]
      exact ⟨q, rfl, by rw [h8, nvs_app]⟩
  · rintro σ' H5 ⟨v5, v6, v7, rfl, s5, fe⟩
    refine mono .non H5 h s5 rfl ?_ fun l z => (by cases z)
    have z0 : bars pl.sts + 1 - lastN (rkP pl) begun - ((((bars pl.sts : Nat) : Int) + 1) - (lastN (rkP pl) begun : Int)).toNat = 0 := by omega
    rw [z0] at fe
    rw [← fe]
    rfl
end
end Af

set_option Elab.async false
set_option linter.all false
set_option maxRecDepth 100000
set_option maxHeartbeats 4000000
namespace Af
open PySem L2
/-! what the masks say of contents -/
theorem lookup_of {pt : Ptn} (nd : (pt.map (·.1)).Nodup) : ∀ {q : Nat × List Int}, q ∈ pt → pt.lookup q.1 = some q.2 := by
  induction pt with
  | nil => intro q h; cases h
  | cons p pt ih =>
    intro q h
    obtain ⟨pk, pw⟩ := p
    have nd' := List.pairwise_cons.mp nd
    rw [List.lookup_cons]
    rcases List.mem_cons.mp h with rfl | h
    · rw [beq_self_eq_true]
    · have ne : (q.1 == pk) = false := by
        have := nd'.1 q.1 (List.mem_map.mpr ⟨q, h, rfl⟩)
        simpa using fun e => this e.symm
      rw [ne]
      exact ih nd'.2 h
theorem lookup_mem : ∀ {pt : Ptn} {c : Nat} {ws : List Int}, pt.lookup c = some ws → (c, ws) ∈ pt
  | p :: pt, c, ws, h => by
    obtain ⟨pk, pw⟩ := p
    rw [List.lookup_cons] at h
    by_cases e : c = pk
    · subst e
      rw [beq_self_eq_true] at h
      cases h
      exact List.mem_cons_self
    · rw [show (c == pk) = false by simpa using e] at h
      exact List.mem_cons_of_mem _ (lookup_mem h)
def agU (U : Nat) (pt : Ptn) (c : List Int) : Prop := ∀ q ∈ pt, U.testBit q.1 = true → q.2.contains (c.getD q.1 0) = true
theorem behF_get {c : List Int} {ix : Int} {f : Nat} {ws : List Int} (h : f + ws.length ≤ c.length) (j : Nat) : (behF c (ix, (((f : Nat) : Int), ws))).getD j 0 = if f ≤ j ∧ j < f + ws.length then ws.getD (j - f) 0 else c.getD j 0 := by
  unfold behF
  show (c.take ((f : Nat) : Int).toNat ++ ws ++ c.drop (((f : Nat) : Int).toNat + ws.length)).getD j 0 = _
  rw [Int.toNat_natCast, List.getD_eq_getElem?_getD, List.getD_eq_getElem?_getD, List.getD_eq_getElem?_getD, List.append_assoc, List.getElem?_append]
  rw [List.length_take, Nat.min_eq_left (by omega)]
  by_cases h1 : j < f
  · rw [if_pos h1, if_neg (by omega), List.getElem?_take, if_pos h1]
  · rw [if_neg h1, List.getElem?_append]
    by_cases h2 : j < f + ws.length
    · rw [if_pos (by omega), if_pos ⟨by omega, h2⟩]
    · rw [if_neg (by omega), if_neg (by omega), List.getElem?_drop, show f + ws.length + (j - f - ws.length) = j by omega]
theorem ag_step {pt : Ptn} (nd : (pt.map (·.1)).Nodup) {c : List Int} {ix : Int} {f : Nat} {ws : List Int} (h : f + ws.length ≤ c.length) (U : Nat) :
    agU U pt (behF c (ix, (((f : Nat) : Int), ws))) ↔ bitsL (spoilP pt f ws) &&& U = 0 ∧ agU (dif U (bitsL (cellsP pt f ws.length))) pt c := by
  have tb : ∀ j, (bitsL (cellsP pt f ws.length)).testBit j = true ↔ (f ≤ j ∧ j < f + ws.length) ∧ hasC pt j = true := fun j => by
    rw [bitsL_bit ((cellsP_asc pt f ws.length).imp fun h => Nat.ne_of_lt h), cellsP_mem]
  have sb : ∀ j, (bitsL (spoilP pt f ws)).testBit j = true ↔ ((f ≤ j ∧ j < f + ws.length) ∧ hasC pt j = true) ∧ badP pt f ws j = true := fun j => by
    rw [bitsL_bit ((spoilP_asc pt f ws).imp fun h => Nat.ne_of_lt h)]
    unfold spoilP
    rw [List.mem_filter, cellsP_mem]
  have hq : ∀ q ∈ pt, hasC pt q.1 = true ∧ letC pt q.1 = q.2 := fun q m => by
    unfold hasC letC
    rw [lookup_of nd m]
    exact ⟨rfl, rfl⟩
  constructor
  · intro a
    refine ⟨and_zero.mpr fun j h1 h2 => ?_, fun q m u => ?_⟩
    · obtain ⟨⟨g1, g2⟩, g3⟩ := (sb j).mp h1
      unfold hasC at g2
      obtain ⟨w', e⟩ := Option.isSome_iff_exists.mp g2
      have m := lookup_mem e
      have := a _ m h2
      rw [behF_get h, if_pos g1] at this
      unfold badP at g3
      rw [(hq _ m).2, this] at g3
      cases g3
    · rw [dif_bit, Bool.and_eq_true, Bool.not_eq_true'] at u
      have := a q m u.1
      rw [behF_get h] at this
      by_cases g : f ≤ q.1 ∧ q.1 < f + ws.length
      · have := (tb q.1).mpr ⟨g, (hq q m).1⟩
        rw [u.2] at this
        cases this
      · rw [if_neg g] at this
        exact this
  · rintro ⟨a1, a2⟩ q m u
    rw [behF_get h]
    by_cases g : f ≤ q.1 ∧ q.1 < f + ws.length
    · rw [if_pos g]
      have nb : badP pt f ws q.1 = false := by
        cases e : badP pt f ws q.1 with
        | false => rfl
        | true => exact (and_zero.mp a1 q.1 ((sb q.1).mpr ⟨⟨g, (hq q m).1⟩, e⟩) u).elim
      unfold badP at nb
      rw [(hq q m).2] at nb
      simpa using nb
    · rw [if_neg g]
      refine a2 q m ?_
      rw [dif_bit, u, Bool.true_and, Bool.not_eq_true']
      cases e : (bitsL (cellsP pt f ws.length)).testBit q.1 with
      | false => rfl
      | true => exact absurd ((tb q.1).mp e).1 g
theorem ag_first {pt : Ptn} (nd : (pt.map (·.1)).Nodup) (c : List Int) (U : Nat) : agU U pt c ↔ bitsL (firstP pt c) &&& U = 0 := by
  have fsub : (firstP pt c).Sublist (pt.map (·.1)) := (List.filter_sublist (l := pt)).map _
  have fb : ∀ j, (bitsL (firstP pt c)).testBit j = true ↔ ∃ q ∈ pt, q.1 = j ∧ q.2.contains (c.getD q.1 0) = false := fun j => by
    rw [bitsL_bit (nd.sublist fsub)]
    unfold firstP
    rw [List.mem_map]
    constructor
    · rintro ⟨q, hq, e⟩
      obtain ⟨h1, h2⟩ := List.mem_filter.mp hq
      exact ⟨q, h1, e, by simpa using h2⟩
    · rintro ⟨q, h1, e, h2⟩
      exact ⟨q, List.mem_filter.mpr ⟨h1, by simpa using h2⟩, e⟩
  constructor
  · intro a
    refine and_zero.mpr fun j h1 h2 => ?_
    obtain ⟨q, m, rfl, e⟩ := (fb j).mp h1
    rw [a q m h2] at e
    cases e
  · intro a q m u
    cases e : q.2.contains (c.getD q.1 0) with
    | true => rfl
    | false => exact (and_zero.mp a q.1 ((fb q.1).mpr ⟨q, m, rfl, e⟩) u).elim
theorem gM_at {ms : List Nat} {i m : Nat} (h : ms[i]? = some m) : gM ms i = m := by
  unfold gM
  rw [List.getD_eq_getElem?_getD, h]
  rfl
/-- the order is right if and only if the content is -/
theorem okR_ag {h : Hd} {pl : Pl} {pt : Ptn} {T G : List Nat} {D : List (Nat × Nat)} {begun : List Nat} (o : OkP pl) (nd : (pt.map (·.1)).Nodup) (hd : HdOk h pl pt T G D begun) (bb : ∀ p ∈ begun, p < (rkP pl).length) :
    ∀ (l : List Nat) (U : Nat), (∀ p ∈ l, p < (rkP pl).length) → (okR (gM h.ss) (gM h.ts) h.first U l ↔ agU U pt (overF (allP pl.w 0 pl.sts) pl.cs (begun ++ l.reverse)))
  | [], U, _ => by
    rw [List.reverse_nil, List.append_nil, ag_first nd]
    show h.first &&& U = 0 ↔ _
    rw [hd.first]
  | p :: l, U, hl => by
    have ih := okR_ag o nd hd bb l (dif U (gM h.ts p)) fun x hx => hl x (List.mem_cons_of_mem _ hx)
    have pn : p < (allP pl.w 0 pl.sts).length := by have := hl p List.mem_cons_self; rwa [rkP_len] at this
    show gM h.ss p &&& U = 0 ∧ okR _ _ _ (dif U (gM h.ts p)) l ↔ _
    rw [ih, List.reverse_cons, ← List.append_assoc, overF_snoc]
    have ib := allP_fit (w := pl.w) (i := 0) o.st
    have e0 := List.getElem?_eq_getElem pn
    obtain ⟨b0, b1⟩ := ib _ (List.getElem_mem pn)
    have ep : pcAt (allP pl.w 0 pl.sts) p = (allP pl.w 0 pl.sts)[p] := by
      unfold pcAt
      rw [List.getD_eq_getElem?_getD, e0]
      rfl
    have et : gM h.ts p = touchP pt (allP pl.w 0 pl.sts)[p] := gM_at (by rw [hd.ts, List.getElem?_map, e0]; rfl)
    have es : gM h.ss p = spoilM pt (allP pl.w 0 pl.sts)[p] := gM_at (by rw [hd.ss, List.getElem?_map, e0]; rfl)
    rw [ep, et, es]
    have len := overF_len ib (begun ++ l.reverse) pl.cs rfl fun k hk => by
      rcases List.mem_append.mp hk with hk | hk
      · have := bb k hk; rwa [rkP_len] at this
      · have := hl k (List.mem_cons_of_mem _ (List.mem_reverse.mp hk)); rwa [rkP_len] at this
    generalize (allP pl.w 0 pl.sts)[p] = q at b0 b1 ⊢
    obtain ⟨ix, pf, ws⟩ := q
    have b0 : 0 ≤ pf := b0
    have b1 : pf + (ws.length : Int) ≤ (pl.cs.length : Int) := b1
    obtain ⟨f, rfl⟩ := Int.eq_ofNat_of_zero_le b0
    have st := ag_step nd (c := overF (allP pl.w 0 pl.sts) pl.cs (begun ++ l.reverse)) (ix := ix) (f := f) (ws := ws) (by rw [len]; omega) U
    exact st.symm
theorem ag_all {pt : Ptn} (nd : (pt.map (·.1)).Nodup) (c : List Int) : agU (bitsL (pt.map (·.1))) pt c ↔ agB pt c = true := by
  unfold agB
  rw [List.all_eq_true]
  constructor
  · intro a q m
    exact a q m ((bitsL_bit nd q.1).mpr (List.mem_map.mpr ⟨q, m, rfl⟩))
  · intro a q m _
    exact a q m
theorem hnt_of {h : Hd} {pl : Pl} {pt : Ptn} {T G : List Nat} {D : List (Nat × Nat)} {begun : List Nat} (hd : HdOk h pl pt T G D begun) (cl : Cw (rkP pl) T G D) : Hnt (rkP pl) T G D begun (gM h.ls) (memF h) (fun k => bitsL (memF h k)) := by
  have mm : ∀ k p, p ∈ memF h k ↔ p < (rkP pl).length ∧ gE (rkP pl) p = (k : Int) ∧ p ∉ G ∧ p ∉ begun := fun k p => by
    unfold memF
    rw [hd.ms, List.getD_eq_getElem?_getD, List.getElem?_map]
    by_cases kl : k < bars pl.sts + 1
    · rw [List.getElem?_range kl]
      show p ∈ memL (rkP pl) G begun k (rkP pl).length ↔ _
      unfold memL
      rw [List.mem_filter, List.mem_range, Bool.and_eq_true, Bool.and_eq_true, decide_eq_true_iff, Bool.not_eq_true', Bool.not_eq_true', ← Bool.not_eq_true, ← Bool.not_eq_true, List.contains_iff_mem, List.contains_iff_mem]
      constructor
      · rintro ⟨a, ⟨b, c⟩, d⟩
        exact ⟨a, b, c, d⟩
      · rintro ⟨a, b, c, d⟩
        exact ⟨a, ⟨b, c⟩, d⟩
    · rw [List.getElem?_eq_none (by rw [List.length_range]; omega)]
      constructor
      · intro m; cases m
      · rintro ⟨a, b, _⟩
        obtain ⟨e, e1, e2⟩ := rk_in a
        omega
  have nd : ∀ k, (memF h k).Nodup := fun k => by
    unfold memF
    rw [hd.ms, List.getD_eq_getElem?_getD, List.getElem?_map]
    by_cases kl : k < bars pl.sts + 1
    · rw [List.getElem?_range kl]
      exact ((List.pairwise_lt_range (n := (rkP pl).length)).filter _).imp fun h => Nat.ne_of_lt h
    · rw [List.getElem?_eq_none (by rw [List.length_range]; omega)]
      exact List.Pairwise.nil
  exact ⟨gE_nn pl, cl, fun p q hp hq => hd.ls p hp q hq, mm, nd, fun k j => bitsL_bit (nd k) j⟩
theorem claimed_iff {T : List Nat} {D : List (Nat × Nat)} {c : Nat} : Claimed T D c ↔ c ∈ T ∨ c ∈ parts D := by
  unfold Claimed
  rw [parts_mem]
theorem sure_iff {h : Hd} {pl : Pl} {pt : Ptn} {T G : List Nat} {D : List (Nat × Nat)} {begun : List Nat} (hd : HdOk h pl pt T G D begun) (e p : Nat) : sureH h e p = true ↔ gE (rkP pl) p < (e : Int) ∨ Claimed T D p := by
  unfold sureH
  rw [Bool.or_eq_true, decide_eq_true_iff, List.contains_iff_mem, hd.cl, claimed_iff, hd.es]
theorem mis_iff {es : List Int} {T G : List Nat} {D : List (Nat × Nat)} {e : Nat} : misB es T G D (e : Int) = false ↔ NoMis es T G D e := by
  unfold misB
  rw [Bool.or_eq_false_iff, List.any_eq_false, List.any_eq_false]
  constructor
  · rintro ⟨a, b⟩
    refine ⟨fun c hc => ?_, fun x hx => ?_⟩
    · have := a c (List.mem_append.mpr (claimed_iff.mp hc))
      have : ¬ (e : Int) < gE es c := by simpa using this
      omega
    · have := b x hx
      have : ¬ gE es x < (e : Int) := by simpa using this
      omega
  · rintro ⟨a, b⟩
    refine ⟨fun x hx => ?_, fun x hx => ?_⟩
    · have := a x (claimed_iff.mpr (List.mem_append.mp hx))
      simpa using this
    · have := b x hx
      simpa using this
theorem okE_mis {es : List Int} {T G : List Nat} {D : List (Nat × Nat)} {e : Nat} (h : okE es T G D e = true) : NoMis es T G D e := by
  unfold okE at h
  rw [Bool.not_eq_true', Bool.or_eq_false_iff] at h
  exact mis_iff.mp h.2
theorem okE_of {es : List Int} {T G : List Nat} {D : List (Nat × Nat)} {e : Nat} (h : NoMis es T G D e) (o : e = 0 ∨ ∃ p < es.length, gE es p = (e : Int)) : okE es T G D e = true := by
  unfold okE
  rw [Bool.not_eq_true', Bool.or_eq_false_iff]
  refine ⟨?_, mis_iff.mpr h⟩
  rcases o with rfl | ⟨p, hp, ep⟩
  · rfl
  · have : es.contains (e : Int) = true := by
      rw [List.contains_iff_mem, ← ep]
      unfold gE
      rw [List.getD_eq_getElem?_getD, List.getElem?_eq_getElem hp]
      exact List.getElem_mem hp
    rw [this]
    simp
/-- falls, as they are told -/
theorem fallS_iff {es : List Int} {f : List Nat} : FallS es f ↔ (∀ p ∈ f, p < es.length) ∧ lawB es f = true := by
  have la : lawB es f = true ↔ ∀ k (hk : k < f.length), f[k] ∉ f.take k ∧ ∀ j < es.length, gE es j < gE es f[k] → j ∈ f.take k := by
    unfold lawB
    rw [List.all_eq_true]
    constructor
    · intro a k hk
      exact (okAt_iff hk).mp (a k (List.mem_range.mpr hk))
    · intro a k hk
      exact (okAt_iff (List.mem_range.mp hk)).mpr (a k (List.mem_range.mp hk))
  rw [la]
  constructor
  · intro h
    refine ⟨h.lt, fun k hk => ?_⟩
    have e : f = f.take k ++ f[k] :: f.drop (k + 1) := by rw [← List.drop_eq_getElem_cons hk, List.take_append_drop]
    refine ⟨fun m => ?_, h.lo _ _ _ e⟩
    obtain ⟨i, hi, ei⟩ := List.mem_iff_getElem.mp m
    rw [List.length_take] at hi
    rw [List.getElem_take] at ei
    exact List.pairwise_iff_getElem.mp h.nd i k (by omega) hk (by omega) ei
  · rintro ⟨lt, a⟩
    refine ⟨List.pairwise_iff_getElem.mpr fun i k hi hk ik z => ?_, lt, fun X p Y e j hj hlt => ?_⟩
    · refine (a k hk).1 ?_
      rw [← z]
      exact List.mem_iff_getElem.mpr ⟨i, by rw [List.length_take]; omega, by rw [List.getElem_take]⟩
    · have hk : X.length < f.length := by rw [e, List.length_append, List.length_cons]; omega
      have ek : f[X.length] = p := by simp [e]
      have et : f.take X.length = X := by rw [e, List.take_left]
      have := (a X.length hk).2 j hj (by rw [ek]; exact hlt)
      rwa [et] at this
theorem bef_idx {f : List Nat} (nd : f.Nodup) {a b : Nat} : Bef f a b ↔ a ∈ f ∧ b ∈ f ∧ f.idxOf a < f.idxOf b := by
  constructor
  · rintro ⟨X, Y, Z, e⟩
    rw [e] at nd
    have n1 := List.pairwise_append.mp nd
    have aX : a ∉ X := fun m => n1.2.2 a m a (by simp) rfl
    have bX : b ∉ X := fun m => n1.2.2 b m b (by simp) rfl
    have ab : b ≠ a := fun z => (List.pairwise_cons.mp n1.2.1).1 b (by simp) z.symm
    refine ⟨by rw [e]; simp, by rw [e]; simp, ?_⟩
    rw [e, List.idxOf_append, List.idxOf_append, if_neg aX, if_neg bX, List.idxOf_cons_self, idx_skip (Ne.symm ab)]
    omega
  · rintro ⟨ha, hb, lt⟩
    obtain ⟨X, Y, e⟩ := List.append_of_mem ha
    have n1 := nd
    rw [e] at n1
    have aX : a ∉ X := fun m => (List.pairwise_append.mp n1).2.2 a m a (by simp) rfl
    refine bef_split e ?_
    rw [e] at hb
    rcases List.mem_append.mp hb with m | m
    · exfalso
      rw [e, List.idxOf_append, List.idxOf_append, if_neg aX, if_pos m, List.idxOf_cons_self] at lt
      have := List.idxOf_lt_length_iff.mpr m
      omega
    · rcases List.mem_cons.mp m with rfl | m
      · omega
      · exact m
theorem fitS_iff {T G : List Nat} {D : List (Nat × Nat)} {f : List Nat} (nd : f.Nodup) (ne : ∀ d ∈ D, d.1 ≠ d.2) : FitS T G D f ↔ fitL T G D f = true := by
  unfold fitL
  rw [Bool.and_eq_true, Bool.and_eq_true, List.all_eq_true, Bool.not_eq_true', List.any_eq_false, List.all_eq_true]
  constructor
  · intro h
    refine ⟨⟨fun x hx => List.contains_iff_mem.mpr (h.t x hx), fun x hx => by have := h.g x hx; simpa using this⟩, fun d hd => ?_⟩
    obtain ⟨m1, m2, lt⟩ := (bef_idx nd).mp (h.d d hd)
    unfold lawP
    rw [List.contains_iff_mem.mpr m1, List.contains_iff_mem.mpr m2, decide_eq_false (by omega)]
    rfl
  · rintro ⟨⟨a, b⟩, c⟩
    refine ⟨fun x hx => List.contains_iff_mem.mp (a x hx), fun x hx => by have := b x hx; simpa using this, fun d hd => ?_⟩
    have q := c d hd
    unfold lawP at q
    rw [Bool.and_eq_true, Bool.and_eq_true, Bool.not_eq_true'] at q
    have m1 := List.contains_iff_mem.mp q.1
    have m2 := List.contains_iff_mem.mp q.2.1
    have le := of_decide_eq_false q.2.2
    have := idx_ne m1 m2 (ne d hd)
    exact (bef_idx nd).mpr ⟨m1, m2, by omega⟩
/-- what find finds from the start -/
theorem fb_good {h : Hd} {pl : Pl} {pt : Ptn} {T G : List Nat} {D : List (Nat × Nat)} (o : OkP pl) (op : OkPt pl.cs.length pt) (hd : HdOk h pl pt T G D []) (cl : Cw (rkP pl) T G D) {r : List Nat} (e : fbO h pl T G D [] = some r) :
    FallS (rkP pl) r ∧ FitS T G D r ∧ agB pt (overF (allP pl.w 0 pl.sts) pl.cs r) = true := by
  have fn : FallS (rkP pl) [] := ⟨List.Pairwise.nil, fun _ h => (by cases h), fun X p Y e => (by simp at e)⟩
  have mn : MayS G D [] := ⟨fun _ _ h => (by cases h), fun _ _ h => (by cases h)⟩
  obtain ⟨g1, g2, g3⟩ := find_good (sp := gM h.ss) (to := gM h.ts) (sure := sureH h) (first := h.first) (asked := h.asked) (hnt_of hd cl) (fun e p => sure_iff hd e p) fn mn (fun e he => okE_mis he) e
  have g4 := (okR_ag o op.nd hd (fun _ h => (by cases h)) r.reverse h.asked fun p hp => g1.lt p (List.mem_reverse.mp hp)).mp g3
  rw [List.reverse_reverse, hd.asked] at g4
  exact ⟨g1, g2, (ag_all op.nd _).mp g4⟩
theorem fb_none {h : Hd} {pl : Pl} {pt : Ptn} {T G : List Nat} {D : List (Nat × Nat)} (o : OkP pl) (op : OkPt pl.cs.length pt) (hd : HdOk h pl pt T G D []) (cl : Cw (rkP pl) T G D) (e : fbO h pl T G D [] = none) (r : List Nat)
    (g1 : FallS (rkP pl) r) (g2 : FitS T G D r) (g3 : agB pt (overF (allP pl.w 0 pl.sts) pl.cs r) = true) : False := by
  have fn : FallS (rkP pl) [] := ⟨List.Pairwise.nil, fun _ h => (by cases h), fun X p Y e => (by simp at e)⟩
  have g4 := (ag_all op.nd _).mpr g3
  rw [← hd.asked] at g4
  have g5 := (okR_ag o op.nd hd (fun _ h => (by cases h)) r.reverse h.asked fun p hp => g1.lt p (List.mem_reverse.mp hp)).mpr (by rw [List.reverse_reverse]; exact g4)
  refine find_all (sp := gM h.ss) (to := gM h.ts) (sure := sureH h) (first := h.first) (asked := h.asked) (hnt_of hd cl) (fun e p => sure_iff hd e p) (fun e nm ow => okE_of nm ow) (E := bars pl.sts + 1) (fun p hp => ?_) (by omega) fn (k := bars pl.sts + 1 - lastN (rkP pl) []) (by omega) e r g1 g2 g5
  obtain ⟨z, z1, z2⟩ := rk_in hp
  omega
end Af

set_option Elab.async false
set_option linter.all false
set_option maxRecDepth 100000
set_option maxHeartbeats 4000000
namespace Af
open PySem L2
/-- what is good: a fall that fits, after which a pattern is found -/
def GoodS (pl : Pl) (pt : Ptn) (Tl Gl : List Nat) (Dl : List (Nat × Nat)) (r : List Nat) : Prop := FallS (rkP pl) r ∧ FitS Tl Gl Dl r ∧ agB pt (overF (allP pl.w 0 pl.sts) pl.cs r) = true
def sp_cq (C : Addr) : Sp := fun vs H Q _ => ∃ (x v : V) (pa : Addr) (pl : Pl) (sl ql el t g d : Addr) (pt : Ptn) (Tl Gl : List Nat) (Dl : List (Nat × Nat)), vs = [x, .ref pa, v] ∧ PlanF C H x pl sl ql el ∧ PatV H pa pt ∧ OkPt pl.cs.length pt ∧ pt.length ≤ 1000 ∧
  ClV H v Tl Gl Dl t g d ∧ Cl (rkP pl) Tl Gl Dl ∧ ∀ H', Same H H' → Q .non H'
def sp_find (C : Addr) : Sp := fun vs H Q _ => ∃ (x v : V) (pa : Addr) (pl : Pl) (sl ql el t g d : Addr) (pt : Ptn) (Tl Gl : List Nat) (Dl : List (Nat × Nat)), vs = [x, .ref pa, v] ∧ PlanF C H x pl sl ql el ∧ PatV H pa pt ∧ OkPt pl.cs.length pt ∧ pt.length ≤ 1000 ∧
  ClV H v Tl Gl Dl t g d ∧ Cl (rkP pl) Tl Gl Dl ∧ (∀ H', Same H H' → (∀ r, ¬ GoodS pl pt Tl Gl Dl r) → Q .non H') ∧ (∀ l H' r, Same H H' → H l = none → H' l = some (.lst (nvs r)) → GoodS pl pt Tl Gl Dl r → Q (.ref l) H')
section
variable {P : Program} {w : World} {K : PySem.W.Frag} {mg : Str → Option Value} {base : Heap}
end
end Af

set_option Elab.async false
set_option linter.all false
set_option maxRecDepth 100000
set_option maxHeartbeats 8000000
namespace Af
open PySem L2
abbrev s_l_pattern : Stmt := top 79
abbrev N_l_pattern : List Str := ["_law_pen_here", "_law_plan_here", "_law_content_here", "_law_found", "_law_one", "_law_worths_here", "_law_turn"]
theorem sc_l_pattern : FnScope N_l_pattern ["_law_pen_here", "_law_plan_here"] (defScope s_l_pattern) := ⟨rfl, rfl, rfl, by decide +kernel, rfl, by decide +kernel, by decide +kernel⟩

theorem spl_rg {w : Int} : ∀ (r acc : List Int) (st pos : Int) (p : Int × List Int), p ∈ spl w st acc pos r → ∀ z ∈ p.2, z ∈ acc ∨ z ∈ r
  | [], acc, st, pos, p, m => by
    have e : p = (st, acc) := List.mem_singleton.mp m
    subst e
    exact fun z hz => .inl hz
  | x :: r, acc, st, pos, p, m => by
    by_cases c : acc ≠ [] ∧ pos % w = 0
    · rw [spl_cut c] at m
      rcases List.mem_cons.mp m with rfl | m
      · exact fun z hz => .inl hz
      · intro z hz
        rcases spl_rg r [x] pos (pos + 1) p m z hz with h | h
        · exact .inr (by rw [List.mem_singleton.mp h]; exact List.mem_cons_self)
        · exact .inr (List.mem_cons_of_mem _ h)
    · rw [spl_go c] at m
      intro z hz
      rcases spl_rg r (acc ++ [x]) st (pos + 1) p m z hz with h | h
      · rcases List.mem_append.mp h with h | h
        · exact .inl h
        · exact .inr (by rw [List.mem_singleton.mp h]; exact List.mem_cons_self)
      · exact .inr (List.mem_cons_of_mem _ h)
theorem allP_rg {w : Int} {n : Nat} : ∀ {l : List Stp} {i : Nat}, (∀ x ∈ l, OkS n x) → ∀ p ∈ allP w i l, ∀ z ∈ p.2.2, 0 ≤ z ∧ z < 8
  | [], _, _, p, h => by cases h
  | a :: l, i, o, p, h => by
    have h' : p ∈ oneP w i a ++ allP w (i + 1) l := h
    rcases List.mem_append.mp h' with h | h
    · cases a with
      | none => cases h
      | some fw =>
        obtain ⟨f, ws⟩ := fw
        obtain ⟨y, hy, rfl⟩ := List.mem_map.mp h
        obtain ⟨_, _, _, o4⟩ := o _ List.mem_cons_self
        intro z hz
        rcases spl_rg _ _ _ _ _ hy z hz with h | h
        · cases h
        · exact o4 z h
    · exact allP_rg (fun x hx => o x (List.mem_cons_of_mem _ hx)) p h
theorem behF_rg {c : List Int} {p : Int × (Int × List Int)} (h : ∀ z ∈ c, 0 ≤ z ∧ z < 8) (hp : ∀ z ∈ p.2.2, 0 ≤ z ∧ z < 8) : ∀ z ∈ behF c p, 0 ≤ z ∧ z < 8 := fun z hz => by
  unfold behF at hz
  rcases List.mem_append.mp hz with hz | hz
  · rcases List.mem_append.mp hz with hz | hz
    · exact h z (List.mem_of_mem_take hz)
    · exact hp z hz
  · exact h z (List.mem_of_mem_drop hz)
theorem overF_rg {ps : List (Int × (Int × List Int))} (hb : ∀ p ∈ ps, ∀ z ∈ p.2.2, 0 ≤ z ∧ z < 8) : ∀ (ls : List Nat) (c : List Int), (∀ z ∈ c, 0 ≤ z ∧ z < 8) → (∀ k ∈ ls, k < ps.length) → ∀ z ∈ overF ps c ls, 0 ≤ z ∧ z < 8
  | [], c, h, _ => h
  | k :: ls, c, h, kb => by
    have k0 := kb k List.mem_cons_self
    refine overF_rg hb ls (behF c (pcAt ps k)) (behF_rg h ?_) fun j hj => kb j (List.mem_cons_of_mem _ hj)
    unfold pcAt
    rw [List.getD_eq_getElem?_getD, List.getElem?_eq_getElem k0]
    exact hb _ (List.getElem_mem k0)
theorem rgV_nvs (n : Nat) : rgV 0 (n : Int) = nvs (List.range n) := by
  unfold rgV nvs ivs
  rw [List.map_map]
  simp [Function.comp_def]
/-- some numbers of those below n, drawn -/
theorem drawn_cells {n : Nat} {ys rest : List V} (pe : (ys ++ rest).Perm (nvs (List.range n))) : ∃ T : List Nat, ys = nvs T ∧ T.Nodup ∧ ∀ x ∈ T, x < n := by
  obtain ⟨l, h1, h2⟩ := paired_perm pe (paired_nvs _)
  obtain ⟨T0, R0, rfl, h3, h4⟩ := paired_split h1
  refine ⟨T0, nvs_paired h3, (List.nodup_append.mp (h2.nodup_iff.mpr List.nodup_range)).1, fun x hx => List.mem_range.mp (h2.mem_iff.mp (List.mem_append.mpr (.inl hx)))⟩
def sp_lpattern : Sp := fun vs H Q _ => ∃ (q : Pn) (m : Nat) (a ca sa : Addr) (sp : Int) (xs : List V) (sts : List Stp) (cs : List Int), vs = [.ref q.p, .ref a] ∧ Pen q m H ∧ m + 400 < 1000000000000 ∧ H a = some (.tup [.ref ca, .int sp, .ref sa]) ∧ H ca = some (.tup (ivs cs)) ∧ H sa = some (.lst xs) ∧ sa ≠ q.p ∧ Paired (StepV H) xs sts ∧ 0 < sp ∧ xs.length ≤ 90 ∧
  (∀ f ws, some (f, ws) ∈ sts → ws.length ≤ 100) ∧ (∀ x ∈ sts, OkS cs.length x) ∧ cs.length ≤ 24 ∧ (∀ z ∈ cs, 0 ≤ z ∧ z < 8) ∧ (allP sp 0 sts).length ≤ 40 ∧
  ∀ d H' ps, Go q (m + 400) H H' → H d = none → PatV H' d ps → OkPt cs.length ps → ps.length ≤ 4 → Q (.ref d) H'
/-- what stands while a pattern is drawn -/
structure PL (q : Pn) (m : Nat) (H : Hp) (ct l F : Addr) (cc : List Int) (ks : List Nat) (rows : List (L2.Key × V)) (ps : Ptn) (H' : Hp) : Prop where
  go : Go q m H H'
  hc : H' ct = some (.tup (ivs cc))
  hl : H' l = some (.lst (nvs ks))
  hF : H' F = some (.dK rows)
  pr : Paired (RowV H') rows ps
section
variable {q : Pn} {m m' : Nat} {H H' H'' : Hp} {ct l F W : Addr} {cc : List Int} {ks : List Nat} {rows r r' : List (L2.Key × V)} {ps : Ptn}
theorem PL.step (h : PL q m H ct l F cc ks rows ps H') (n : l ≠ q.p) (g : Go q m' H' H'') : PL q m' H ct l F cc ks rows ps H'' :=
  ⟨h.go.trans g, g.kp.tup h.hc, g.kp.lst n h.hl, g.kp _ _ (.inr fun l e => by cases e) h.hF, rows_kp g.kp h.pr⟩
theorem PL.same (h : PL q m H ct l F cc ks rows ps H') (s : Same H' H'') : PL q m H ct l F cc ks rows ps H'' :=
  ⟨h.go.same s, s _ _ h.hc, s _ _ h.hl, s _ _ h.hF, rows_same s h.pr⟩
theorem PL.mono (h : PL q m H ct l F cc ks rows ps H') (n : m ≤ m') : PL q m' H ct l F cc ks rows ps H' := ⟨h.go.mono n, h.hc, h.hl, h.hF, h.pr⟩
theorem PL.mut {m0 : Nat} (h : PL q m H ct l F cc ks rows ps H') (pn : Pen q m0 H) (hW : H' W = some (.dK r)) (nF : W ≠ F) (n : H W = none) : PL q m H ct l F cc ks rows ps (upd H' W (.dK r')) := by
  have tn : ∀ {b : Addr} {u : HO}, H' b = some u → u ≠ .dK r → b ≠ W := fun e ne z => by
    rw [z, hW] at e
    exact ne (Option.some.inj e).symm
  exact ⟨Go.mut pn n h.go, by rw [upd_ne (tn h.hc (fun z => by cases z))]; exact h.hc, by rw [upd_ne (tn h.hl (fun z => by cases z))]; exact h.hl, by rw [upd_ne nF.symm]; exact h.hF, rows_upd hW (fun l z => by cases z) h.pr⟩
end
section
variable {P : Program} {w : World} {K : PySem.W.Frag} {mg : Str → Option Value} {base : Heap}
theorem ok_lpattern {f : Addr} {fd : FuncData} (F : Fun K "_law_pattern" "_law_pattern" s_l_pattern f fd) (T : Txt mg) (t_sorted : mg "sorted" = none) (c_l_draw : Cal P w K mg base 2 "_law_draw" ["_law_pen_here", "_law_under"] sp_draw) (c_l_fall : Cal P w K mg base 4 "_law_fall" ["_law_pen_here", "_law_plan_here"] sp_fall)
    (c_l_left : Cal P w K mg base 3 "_law_left" ["_law_plan_here", "_law_some_here"] sp_left) (c_l_some : Cal P w K mg base 3 "_law_some" ["_law_pen_here", "_law_pool", "_law_most"] sp_someV) : FnOk P w K mg base CX0 5 f fd ["_law_pen_here", "_law_plan_here"] sp_lpattern := by
  refine F.ok sc_l_pattern (fun vs H Q E h => ?_) (fun cdv A outer s H vs Q E hr h => ?_)
  · obtain ⟨_, _, _, _, _, _, _, _, _, rfl, _⟩ := h
    rfl
  obtain ⟨q, m, a, ca, sa, sp, xs, sts, cs, rfl, pn, hm, ha, hca, hsa, nsa, hst, hsp, hxl, hw, hok, c24, hcs, h40, k⟩ := h
  refine ⟨_, (pss_cons (ps_par (i := 2) (j := 3) rfl sc_l_pattern.nd rfl rfl (by decide) rfl rfl (pa_cons (pe_cal c_l_left hr (pa_cons (pv 1) (pa_cons (pe_cal c_l_fall hr (pa_cons (pv 0) (pa_cons (pv 1) pa_nil))) pa_nil))) (pa_cons pe_dnewK pa_nil)) (by rfl))
    (pss_cons (ps_for PassesOwn.never rfl (pi_list (pe_cal c_l_some hr (pa_cons (pv 0) (pa_cons (pe_listRg rfl (by rfl) T.list (prg_1 (by rfl) T.range (pe_callB call_len' (by rfl) T.len (by decide +kernel) (pa_cons (pv 2) pa_nil)))) (pa_cons pe_int pa_nil))))) (pg_name (i := 4) sc_l_pattern.nd rfl (Or.inl rfl))
      (pss_cons (ps_set (i := 5) sc_l_pattern.nd rfl (Or.inl rfl) (pe_disp (pps_cons (pe_ix ix_seq' (pv 2) (pv 4) (fun _ _ => rfl)) pe_bl pps_nil) rfl rfl (by simp) (by decide)))
    (pss_cons (ps_cut (ps_if (pt_cmpR op_eq (pe_cal c_l_draw hr (pa_cons (pv 0) (pa_cons pe_int pa_nil))) pe_int (nomark _))
      (pss_one (ps_set (i := 5) sc_l_pattern.nd rfl (Or.inl rfl) (pe_disp (pps_cons (pe_cal c_l_draw hr (pa_cons (pv 0) (pa_cons pe_int pa_nil))) pe_bl pps_nil) rfl rfl (by simp) (by decide))))
      pss_nil))
    (pss_cons (ps_for PassesOwn.never rfl (pi_range1 rfl T.range (pa_cons (pe_cal c_l_draw hr (pa_cons (pv 0) (pa_cons pe_int pa_nil))) pa_nil)) (pg_name (i := 6) sc_l_pattern.nd rfl (Or.inl rfl))
      (pss_one (ps_asg pe_bl (pg_sub (pv 5) (pe_cal c_l_draw hr (pa_cons (pv 0) (pa_cons pe_int pa_nil))) (set_dict hr.u1)))))
    (pss_one (ps_asg (pe_callTy call_tuple' (by rfl) T.tuple (by decide +kernel) (pa_cons (pe_callB (call_sortedDI rfl) (by rfl) t_sorted (by decide +kernel) (pa_cons (pv 5) pa_nil)) pa_nil)) (pg_sub (pv 3) (pv 4) (set_dict hr.u1))))))))
    (pss_one (ps_ret (pv 3))))), ?_⟩
  refine ⟨_, rfl, _, rfl, _, rfl, q, m, a, ca, sa, sp, xs, sts, rfl, pn, by omega, ha, hsa, hst, hsp, by omega, hw, h40, fun fo H1 ls g1 n1 h1 ll lb lw => ?_⟩
  have ha1 := g1.kp.tup ha
  have hca1 := g1.kp.tup hca
  have hsa1 := g1.kp.lst nsa hsa
  have hst1 := steps_kp g1.kp hst
  refine ⟨a, ca, sa, fo, sp, xs, sts, cs, ls, rfl, ha1, hca1, hsa1, hst1, hsp, by omega, hok, c24, h1, lb, by omega, fun ct H2 s2 h2 => ?_⟩
  have crg := overF_rg (allP_rg (w := sp) (i := 0) hok) ls cs hcs lb
  have cln := overF_len (allP_fit (w := sp) (i := 0) hok) ls cs rfl lb
  generalize overF (allP sp 0 sts) cs ls = cc at h2 crg cln
  have G2 := g1.same s2
  refine fun F hF => ⟨_, _, rfl, ?_⟩
  generalize hH3 : upd H2 F (HO.dK []) = H3
  have s3 : Same H2 H3 := by rw [← hH3]; exact same_new hF
  have hF3 : H3 F = some (.dK []) := by rw [← hH3]; exact upd_same
  have nF : H F = none := G2.none pn hF
  have G3 := G2.same s3
  have h3 := s3 _ _ h2
  refine ⟨_, rfl, _, rfl, ct, _, rfl, .inr h3, _, rfl, RgOk.of_le (by decide) (by rw [ivs_len]; omega) (by decide) (by rw [ivs_len]; omega), fun rl hrl => ?_⟩
  rw [rgV_nvs, ivs_len, cln]
  generalize hH4 : upd H3 rl (HO.lst (nvs (List.range cs.length))) = H4
  have s4 : Same H3 H4 := by rw [← hH4]; exact same_new hrl
  have hr4 : H4 rl = some (.lst (nvs (List.range cs.length))) := by rw [← hH4]; exact upd_same
  have G4 := G3.same s4
  refine ⟨q, _, rl, _, 4, rfl, G4.pen, by omega, hr4, by rw [nvs_len, List.length_range]; omega, by decide, by decide, fun l H5 ys rest g5 n5 h5 pe5 yl5 => ?_⟩
  obtain ⟨ks, rfl, knd0, kb⟩ := drawn_cells pe5
  have kl : ks.length ≤ 4 := by rw [nvs_len] at yl5; omega
  have G5 := (G4.trans g5)
  have nl : H l = none := G4.none pn n5
  have nlp := (pn.free nl).1
  have hc5 := g5.kp.tup (s4 _ _ h3)
  have hF5 : H5 F = some (.dK []) := g5.kp _ _ (.inr fun l e => by cases e) (s4 _ _ hF3)
  have lF : l ≠ F := fun z => by rw [z, hF5] at h5; cases h5
  clear hst1 hsa1 hca1 ha1 h3 h2 hF3 hr4 s2 s3 s4 hrl hF hH3 hH4 n5 pe5 yl5 G2 G3 G4 g5 g1 h1 n1
  refine ⟨l, rfl, ⟨_, SqL.of h5⟩, for_list (K := K) (a := l) (xs := nvs ks) (fun i σ' H' => ∃ v4 v5 v6 rows ps, σ' = [some (.ref q.p), some (.ref a), some (.ref ct), some (.ref F), v4, v5, v6] ∧ Go q (m + 151 + 10 * i) H H' ∧ H' ct = some (.tup (ivs cc)) ∧ H' l = some (.lst (nvs ks)) ∧ H' F = some (.dK rows) ∧ Paired (RowV H') rows ps ∧ ps.map (·.1) = ks.take i ∧ (∀ p ∈ ps, p.2 ≠ []) ∧ (∀ p ∈ ps, p.2.Pairwise (· < ·)) ∧ ∀ p ∈ ps, ∀ z ∈ p.2, 0 ≤ z ∧ z < 8) ?_ ?_ ?_ ?_⟩
  · exact ⟨_, _, _, [], [], rfl, G5.mono (by omega), hc5, h5, hF5, .nil, rfl, fun p h => (by cases h), fun p h => (by cases h), fun p h => (by cases h)⟩
  · rintro i σ' H' _ ⟨_, _, _, _, _, rfl, _, _, h, _⟩
    exact SqL.of h
  · rintro i y σ' H6 hy ⟨v4, v5, v6, rows, ps, rfl, g6, hc6, hl6, hF6, pr, pk, pn1, pa, pg⟩
    obtain ⟨il, rfl⟩ := nvs_lt hy
    have ki := kb _ (List.getElem_mem il)
    have L6 : PL q (m + 151 + 10 * i) H ct l F cc ks rows ps H6 := ⟨g6, hc6, hl6, hF6, pr⟩
    have cin : ks[i] < cc.length := by omega
    have cz := crg _ (List.getElem_mem cin)
    have hcz : (ivs cc)[ks[i]]? = some (.int cc[ks[i]]) := by
      unfold ivs
      rw [List.getElem?_map, List.getElem?_eq_getElem cin]
      rfl
    clear g6 hc6 hl6 hF6 pr hy
    refine fun W0 hW0 => ⟨_, rfl, _, rfl, ct, _, _, _, rfl, rfl, .inr ((same_new hW0) _ _ L6.hc), atI_nat hcz, upd_same, [(.inl cc[ks[i]], .bl true)], rfl, (by simp), ?_⟩
    have nW0 : H W0 = none := L6.go.none pn hW0
    have W0F : W0 ≠ F := fun z => by rw [z, L6.hF] at hW0; cases hW0
    have s7 : Same H6 (upd (upd H6 W0 (.dK [])) W0 (.dK (mergeK [] [(.inl cc[ks[i]], .bl true)]))) := same_mut (same_new hW0) hW0
    have L7 := L6.same s7
    have k7 : KeyV (upd (upd H6 W0 (.dK [])) W0 (.dK (mergeK [] [(.inl cc[ks[i]], .bl true)]))) W0 [cc[ks[i]]] := ⟨_, upd_same, rfl⟩
    generalize upd (upd H6 W0 (.dK [])) W0 (.dK (mergeK [] [(.inl cc[ks[i]], .bl true)])) = H7 at s7 L7 k7
    clear s7 L6 hW0
    refine ⟨fun σ' H' => ∃ W kk v6, σ' = [some (.ref q.p), some (.ref a), some (.ref ct), some (.ref F), some (.int ((ks[i] : Nat) : Int)), some (.ref W), v6] ∧ PL q (m + 151 + 10 * i + 2) H ct l F cc ks rows ps H' ∧ KeyV H' W kk ∧ kk.Nodup ∧ kk ≠ [] ∧ (∀ z ∈ kk, 0 ≤ z ∧ z < 8) ∧ kk.length ≤ 1 ∧ H W = none ∧ W ≠ F, ?_, ?_⟩
    · refine ⟨_, rfl, q, _, 3, rfl, by decide, by decide, L7.go.pen, by omega, fun d H8 d0 d1 g8 => ?_⟩
      have L8 := L7.step nlp g8
      have k8 := k7.kp g8.kp
      refine ⟨rfl, _, rfl, ite2 (fun _ => ?_) (fun _ => ?_)⟩
      · refine fun W1 hW1 => ⟨_, rfl, q, _, 8, rfl, by decide, by decide, L8.go.pen.same (same_new hW1), by omega, fun e H9 e0 e1 g9 => ?_⟩
        have nW1 : H W1 = none := L8.go.none pn hW1
        have W1F : W1 ≠ F := fun z => by rw [z, L8.hF] at hW1; cases hW1
        have L9 := (L8.same (same_new (o := .dK []) hW1)).step nlp g9
        have w9 : H9 W1 = some (.dK []) := g9.kp _ _ (.inr fun l e => by cases e) upd_same
        refine ⟨w9, [(.inl e, .bl true)], rfl, (by simp), ?_⟩
        exact ⟨W1, [e], v6, rfl, (L9.mut pn w9 W1F nW1).mono (by omega), ⟨_, upd_same, rfl⟩, by simp, by simp, fun z hz => by rw [List.mem_singleton.mp hz]; exact ⟨e0, e1⟩, Nat.le_refl _, nW1, W1F⟩
      · exact ⟨W0, _, v6, rfl, L8.mono (by omega), k8, by simp, by simp, fun z hz => by rw [List.mem_singleton.mp hz]; exact cz, Nat.le_refl _, nW0, W0F⟩
    clear L7 k7 nW0 W0F
    rintro σ' H8 ⟨W, kk, v6, rfl, L8, k8, knd8, kne8, krg8, kl8, nW, WF⟩
    refine ⟨_, rfl, q, _, 3, rfl, by decide, by decide, L8.go.pen, by omega, fun d H9 d0 d1 g9 => ⟨_, rfl, by omega, by omega, ?_⟩⟩
    have L9 := L8.step nlp g9
    have k9 := k8.kp g9.kp
    refine for_range (lo := 0) (fun j σ' H' => ∃ kk v6, σ' = [some (.ref q.p), some (.ref a), some (.ref ct), some (.ref F), some (.int ((ks[i] : Nat) : Int)), some (.ref W), v6] ∧ PL q (m + 151 + 10 * i + 3 + j) H ct l F cc ks rows ps H' ∧ KeyV H' W kk ∧ kk.Nodup ∧ kk ≠ [] ∧ (∀ z ∈ kk, 0 ≤ z ∧ z < 8) ∧ kk.length ≤ 1 + j) ?_ ?_ ?_
    · exact ⟨kk, v6, rfl, L9.mono (by omega), k9, knd8, kne8, krg8, kl8⟩
    · rintro j σ' H10 hj ⟨kk, v6, rfl, L10, k10, knd, kne, krg, kl⟩
      refine ⟨_, rfl, _, rfl, q, _, 8, rfl, by decide, by decide, L10.go.pen, by omega, fun e H11 e0 e1 g11 => ?_⟩
      have L11 := L10.step nlp g11
      obtain ⟨wr, hW11, wk⟩ := k10.kp g11.kp
      have wl : wr.length = kk.length := by rw [← List.length_map (as := wr) (f := (·.1)), wk, List.length_map]
      obtain ⟨kk', p1, p2, p3, p4⟩ := putK_keys wk e (.bl true)
      refine ⟨W, _, rfl, DPut.k (k := .inl e) hW11 (szl (by omega)), ?_⟩
      refine ⟨kk', _, rfl, (L11.mut pn hW11 WF nW).mono (by omega), ⟨_, upd_same, p1⟩, p2 knd, fun z => ?_, fun z hz => ?_, by omega⟩
      · have := (p3 e).mpr (.inr rfl)
        rw [z] at this
        cases this
      · rcases (p3 z).mp hz with h | rfl
        · exact krg z h
        · exact ⟨e0, e1⟩
    · rintro σ' H10 ⟨kk, v6, rfl, L10, ⟨wr, hW10, wk⟩, knd, kne, krg, kl⟩
      refine ⟨_, rfl, W, wr, kk, rfl, .inl hW10, wk, by omega, fun ys p perm asc np => ?_⟩
      refine ⟨p, _, rfl, .inl upd_same, fun t H11 s11 h11 => ?_⟩
      have L11 := (L10.same (same_new np)).same s11
      have ynd : ys.Nodup := perm.nodup_iff.mpr knd
      have ki_new : (Sum.inl ((ks[i] : Nat) : Int) : L2.Key) ∉ rows.map (·.1) := fun mm => by
        have er := rows_keys L11.pr
        rw [er] at mm
        obtain ⟨p, hp, e⟩ := List.mem_map.mp mm
        have e1 : p.1 = ks[i] := by injection e; omega
        have mk : ks[i] ∈ ks.take i := by rw [← pk, ← e1]; exact List.mem_map.mpr ⟨p, hp, rfl⟩
        obtain ⟨x, hx⟩ := List.mem_iff_getElem?.mp mk
        rw [List.getElem?_take] at hx
        by_cases c : x < i
        · rw [if_pos c] at hx
          obtain ⟨xl, hx2⟩ := List.getElem?_eq_some_iff.mp hx
          exact List.pairwise_iff_getElem.mp knd0 x i xl il c hx2
        · rw [if_neg c] at hx
          cases hx
      have rl := paired_len L11.pr
      have pl : ps.length ≤ 4 := by
        rw [← List.length_map (as := ps) (f := (·.1)), pk, List.length_take]
        omega
      refine ⟨_, rfl, _, rfl, F, _, rfl, DPut.k (k := .inl ((ks[i] : Nat) : Int)) L11.hF (szl (by omega)), ?_⟩
      rw [putK_snoc ki_new]
      have FW : ∀ {b : Addr} {u : HO}, H11 b = some u → (∀ r, u ≠ .dK r) → b ≠ F := fun e ne z => by
        rw [z, L11.hF] at e
        exact ne _ (Option.some.inj e).symm
      have tk : ks.take (i + 1) = ks.take i ++ [ks[i]] := by rw [List.take_add_one, List.getElem?_eq_getElem il]; rfl
      refine ⟨_, _, _, rows ++ [(.inl ((ks[i] : Nat) : Int), .ref t)], ps ++ [(ks[i], ys)], rfl, (Go.mut pn nF L11.go).mono (by omega), by rw [upd_ne (FW L11.hc (fun r z => by cases z))]; exact L11.hc, by rw [upd_ne (FW L11.hl (fun r z => by cases z))]; exact L11.hl, upd_same, ?_, ?_, ?_, ?_, ?_⟩
      · exact paired_app (rows_upd L11.hF (fun l z => by cases z) L11.pr) (.cons ⟨rfl, t, rfl, by rw [upd_ne (FW h11 (fun r z => by cases z))]; exact h11⟩ .nil)
      · rw [List.map_append, pk, tk]
        rfl
      · intro p hp
        rcases List.mem_append.mp hp with hp | hp
        · exact pn1 p hp
        · rw [List.mem_singleton.mp hp]
          intro z
          have z' : ys = [] := z
          rw [z'] at perm
          exact kne (List.Perm.nil_eq perm).symm
      · intro p hp
        rcases List.mem_append.mp hp with hp | hp
        · exact pa p hp
        · rw [List.mem_singleton.mp hp]
          exact List.Pairwise.imp₂ (fun a b (h1 : a ≤ b) (h2 : a ≠ b) => by omega) asc ynd
      · intro p hp
        rcases List.mem_append.mp hp with hp | hp
        · exact pg p hp
        · rw [List.mem_singleton.mp hp]
          intro z hz
          exact krg z (perm.mem_iff.mp hz)
  · rintro σ' H6 ⟨v4, v5, v6, rows, ps, rfl, g6, hc6, hl6, hF6, pr, pk, pn1, pa, pg⟩
    rw [nvs_len, List.take_length] at pk
    have pl : ps.length ≤ 4 := by rw [← List.length_map (as := ps) (f := (·.1)), pk]; exact kl
    have il4 : (nvs ks).length ≤ 4 := by rw [nvs_len]; exact kl
    refine ⟨_, rfl, k F H6 ps (g6.mono (by omega)) nF ⟨rows, hF6, pr⟩ ⟨by rw [pk]; exact knd0, fun p hp => ?_, pn1, pa, pg⟩ pl⟩
    exact kb _ (by rw [← pk]; exact List.mem_map.mpr ⟨p, hp, rfl⟩)
end
end Af

set_option Elab.async false
set_option linter.all false
set_option maxRecDepth 100000
set_option maxHeartbeats 4000000
namespace Af
open PySem L2
/-! all falls, one behind the other -/
section
variable {es : List Int}
theorem FallS.snoc {p : List Nat} {k : Nat} (h : FallS es p) (hk : k ∈ nextL es p) : FallS es (p ++ [k]) := by
  obtain ⟨k1, k2, k3⟩ := nextL_mem.mp hk
  refine ⟨?_, fun x hx => ?_, fun X q Y e j hj lt => ?_⟩
  · rw [List.nodup_append]
    exact ⟨h.nd, List.pairwise_singleton _ _, fun a ha b hb e => k2 (by rw [← List.mem_singleton.mp hb, ← e]; exact ha)⟩
  · rcases List.mem_append.mp hx with hx | hx
    · exact h.lt x hx
    · rw [List.mem_singleton.mp hx]; exact k1
  · rcases List.eq_nil_or_concat Y with rfl | ⟨Y', y, rfl⟩
    · have e1 := List.append_inj' e rfl
      have e2 : k = q := by simpa using e1.2
      subst e2
      rw [← e1.1]
      by_cases c : j ∈ p
      · exact c
      · have := k3 j hj c
        omega
    · have e' : p ++ [k] = (X ++ q :: Y') ++ [y] := by rw [e]; simp
      have e1 := (List.append_inj' e' rfl).1
      exact h.lo X q Y' e1 j hj lt
theorem FallS.next {p s : List Nat} {k : Nat} (h : FallS es (p ++ k :: s)) : k ∈ nextL es p := by
  refine nextL_mem.mpr ⟨h.lt k (by simp), fun m => ?_, fun j hj hn => ?_⟩
  · exact (List.nodup_append.mp h.nd).2.2 k m k List.mem_cons_self rfl
  · by_cases c : gE es k ≤ gE es j
    · exact c
    · exact absurd (h.lo p k s rfl j hj (by omega)) hn
theorem FallS.len {p : List Nat} (h : FallS es p) : p.length ≤ es.length := by
  have := sub_len (l1 := p) (l2 := List.range es.length) h.nd fun x hx => List.mem_range.mpr (h.lt x hx)
  rwa [List.length_range] at this
theorem nextL_few {p : List Nat} (h : FallS es p) : (nextL es p).length + p.length ≤ es.length := by
  have nd : (nextL es p).Nodup := by
    unfold nextL restU
    exact ((List.nodup_range (n := es.length)).filter _).filter _
  have := sub_len (l1 := nextL es p ++ p) (l2 := List.range es.length) (by
    rw [List.nodup_append]
    exact ⟨nd, h.nd, fun a ha b hb e => (nextL_mem.mp ha).2.1 (by rw [e]; exact hb)⟩) fun x hx => by
      rcases List.mem_append.mp hx with hx | hx
      · exact List.mem_range.mpr (nextL_mem.mp hx).1
      · exact List.mem_range.mpr (h.lt x hx)
  rw [List.length_range, List.length_append] at this
  exact this
end
/-- how many falls begin with one that lacks n pieces, at most -/
def wN : Nat → Nat
  | 0 => 1
  | n + 1 => 1 + (n + 1) * wN n
theorem wN_pos : ∀ n, 1 ≤ wN n
  | 0 => Nat.le_refl _
  | n + 1 => by show 1 ≤ 1 + (n + 1) * wN n; omega
def wL (n : Nat) (wss : List (List Nat)) : Nat := (wss.map fun r => wN (n - r.length)).sum
theorem wL_app (n : Nat) (a b : List (List Nat)) : wL n (a ++ b) = wL n a + wL n b := by
  unfold wL
  rw [List.map_append, List.sum_append]
theorem wL_len (n : Nat) : ∀ wss : List (List Nat), wss.length ≤ wL n wss
  | [] => Nat.le_refl _
  | r :: wss => by
    have := wL_len n wss
    have p := wN_pos (n - r.length)
    have e : wL n (r :: wss) = wN (n - r.length) + wL n wss := rfl
    rw [e, List.length_cons]
    omega
theorem wL_kids (n : Nat) (p : List Nat) : ∀ ks : List Nat, wL n (ks.map fun k => p ++ [k]) = ks.length * wN (n - (p.length + 1))
  | [] => (Nat.zero_mul _).symm
  | k :: ks => by
    have e : wL n ((k :: ks).map fun k => p ++ [k]) = wN (n - (p ++ [k]).length) + wL n (ks.map fun k => p ++ [k]) := rfl
    rw [e, wL_kids n p ks, List.length_append]
    show wN (n - (p.length + 1)) + ks.length * wN (n - (p.length + 1)) = (ks.length + 1) * wN (n - (p.length + 1))
    rw [Nat.add_mul, Nat.one_mul]
    omega
theorem wL_step {es : List Int} {p : List Nat} (h : FallS es p) (ks : List Nat) (hk : ks.length = (nextL es p).length) : wL es.length (ks.map fun k => p ++ [k]) + 1 ≤ wN (es.length - p.length) := by
  rw [wL_kids, hk]
  have few := nextL_few h
  cases e : es.length - p.length with
  | zero =>
    have z : (nextL es p).length = 0 := by omega
    rw [z, Nat.zero_mul]
    exact Nat.le_refl 1
  | succ n =>
    have z : es.length - (p.length + 1) = n := by omega
    rw [z]
    show _ ≤ 1 + (n + 1) * wN n
    have := Nat.mul_le_mul (show (nextL es p).length ≤ n + 1 by omega) (Nat.le_refl (wN n))
    omega
/-- what stands while falls are found -/
structure FaI (es : List Int) (fss wss : List (List Nat)) : Prop where
  ok : ∀ r ∈ fss ++ wss, FallS es r
  all : ∀ r, FallS es r → r ∈ fss ∨ ∃ p ∈ wss, ∃ s, r = p ++ s
  few : fss.length + wL es.length wss ≤ 326
theorem FaI.start {es : List Int} (h : es.length ≤ 5) : FaI es [] [[]] := by
  refine ⟨fun r hr => ?_, fun r _ => .inr ⟨[], List.mem_singleton.mpr rfl, r, rfl⟩, ?_⟩
  · have e : r = [] := List.mem_singleton.mp hr
    rw [e]
    exact ⟨List.Pairwise.nil, fun _ h => (by cases h), fun X p Y e => (by simp at e)⟩
  · show 0 + (wN es.length + 0) ≤ 326
    have : ∀ n : Fin 6, wN n.val ≤ 326 := by decide +kernel
    have := this ⟨es.length, by omega⟩
    have : wN es.length ≤ 326 := this
    omega
theorem FaI.step {es : List Int} {fss wss : List (List Nat)} {p : List Nat} (h : FaI es fss (wss ++ [p])) :
    FaI es (fss ++ [p]) (wss ++ (nextL es p).reverse.map fun k => p ++ [k]) ∧ wL es.length (wss ++ (nextL es p).reverse.map fun k => p ++ [k]) < wL es.length (wss ++ [p]) := by
  have fp : FallS es p := h.ok p (by simp)
  have st := wL_step fp (nextL es p).reverse (List.length_reverse ..)
  have few := h.few
  have e1 : wL es.length [p] = wN (es.length - p.length) := by show wN _ + 0 = _; omega
  rw [wL_app, e1] at few
  refine ⟨⟨fun r hr => ?_, fun r hr => ?_, ?_⟩, ?_⟩
  · rcases List.mem_append.mp hr with hr | hr
    · rcases List.mem_append.mp hr with hr | hr
      · exact h.ok r (by simp [hr])
      · rw [List.mem_singleton.mp hr]; exact fp
    · rcases List.mem_append.mp hr with hr | hr
      · exact h.ok r (by simp [hr])
      · obtain ⟨k, hk, rfl⟩ := List.mem_map.mp hr
        exact fp.snoc (List.mem_reverse.mp hk)
  · rcases h.all r hr with m | ⟨q, hq, s, rfl⟩
    · exact .inl (by simp [m])
    · rcases List.mem_append.mp hq with hq | hq
      · exact .inr ⟨q, by simp [hq], s, rfl⟩
      · have e := List.mem_singleton.mp hq
        subst e
        cases s with
        | nil => exact .inl (by simp)
        | cons k s =>
          refine .inr ⟨q ++ [k], List.mem_append.mpr (.inr (List.mem_map.mpr ⟨k, List.mem_reverse.mpr hr.next, rfl⟩)), s, by simp⟩
  · rw [wL_app, List.length_append, List.length_singleton]
    omega
  · rw [wL_app, wL_app, e1]
    omega
/-- lists of numbers in a list -/
def LV (N : Addr → Prop) (H : Hp) (v : V) (fs : List Nat) : Prop := ∃ b, v = .ref b ∧ N b ∧ H b = some (.lst (nvs fs))
theorem lv_to {N N' : Addr → Prop} {H H' : Hp} (h : ∀ b o, N b → H b = some o → N' b ∧ H' b = some o) : ∀ {ys : List V} {fss : List (List Nat)}, Paired (LV N H) ys fss → Paired (LV N' H') ys fss
  | _, _, .nil => .nil
  | _, _, .cons ⟨b, e, n, hb⟩ t => .cons ⟨b, e, (h b _ n hb).1, (h b _ n hb).2⟩ (lv_to h t)
theorem paired_splitR {α β : Type} {R : α → β → Prop} : ∀ {b c : List β} {l : List α}, Paired R l (b ++ c) → ∃ l1 l2, l = l1 ++ l2 ∧ Paired R l1 b ∧ Paired R l2 c
  | [], _, l, h => ⟨[], l, rfl, .nil, h⟩
  | x :: a, b, _, .cons r t => by
    obtain ⟨l1, l2, e, h1, h2⟩ := paired_splitR t
    exact ⟨_ :: l1, l2, by rw [e]; rfl, .cons r h1, h2⟩
theorem dp_lv {K : PySem.W.Frag} {N : Addr → Prop} {H : Hp} : ∀ {ys : List V} {fss : List (List Nat)}, Paired (LV N H) ys fss → DpAll K H ys (fss.map fun fs => .list (dvs (fs.map fun p => ((p : Nat) : Int))))
  | _, _, .nil => .nil
  | _, _, .cons ⟨b, e, _, hb⟩ t => by
    subst e
    exact .cons (.lst (SqL.of hb) (dp_ints _)) (dp_lv t)
theorem lay_lv : ∀ fss : List (List Nat), PyData.canLayAll0 (fss.map fun fs => PyData.list (dvs (fs.map fun p => ((p : Nat) : Int)))) = true ∧ PyData.depthAll (fss.map fun fs => PyData.list (dvs (fs.map fun p => ((p : Nat) : Int)))) ≤ 1
  | [] => ⟨rfl, by decide⟩
  | d :: D => by
    obtain ⟨h1, h2⟩ := lay_lv D
    refine ⟨?_, ?_⟩
    · show (PyData.canLayAll0 (dvs _) && PyData.canLayAll0 _) = true
      rw [h1, lay_ints]
      rfl
    · show max (PyData.depthAll (dvs _) + 1) (PyData.depthAll _) ≤ 1
      rw [deep_ints]
      omega
theorem sh_lv (D : List (List Nat)) : SeqAt.shaped (.list (D.map fun fs => PyData.list (dvs (fs.map fun p => ((p : Nat) : Int))))) = true := by
  obtain ⟨h1, h2⟩ := lay_lv D
  show (PyData.canLayAll0 _ && decide (PyData.depthAll _ + 1 ≤ 64)) = true
  rw [h1, decide_eq_true (by omega)]
  rfl
def rNeNilL : R2 := fun x y H Q => ∃ a b xs fss N, x = .ref a ∧ y = .ref b ∧ H a = some (.lst xs) ∧ H b = some (.lst []) ∧ Paired (LV N H) xs fss ∧ Q (.bl (!fss.isEmpty)) H
theorem op_neNilL {X : Cx} {K : PySem.W.Frag} (hK : X.K = K) (hu : X.A.units + 64 < cLine) : OpR X (compareOp .NotEq) rNeNilL := op_imp (op_neD hu) fun x y H Q h => by
  obtain ⟨a, b, xs, fss, N, rfl, rfl, h1, h2, hp, q⟩ := h
  refine ⟨_, .list [], .lst (SqL.of h1) (dp_lv hp), .lst (SqL.of h2) .nil, sh_lv _, by decide, ?_⟩
  have e : PyData.eqv (.list (fss.map fun fs => PyData.list (dvs (fs.map fun p => ((p : Nat) : Int))))) (.list []) = fss.isEmpty := by cases fss <;> rfl
  rw [e]
  exact q
def rEqNilL : R2 := fun x y H Q => ∃ a b xs fss N, x = .ref a ∧ y = .ref b ∧ H a = some (.lst xs) ∧ H b = some (.lst []) ∧ Paired (LV N H) xs fss ∧ Q (.bl fss.isEmpty) H
theorem op_eqNilL {X : Cx} {K : PySem.W.Frag} (hK : X.K = K) (hu : X.A.units + 64 < cLine) : OpR X (compareOp .Eq) rEqNilL := op_imp (op_eqD hu) fun x y H Q h => by
  obtain ⟨a, b, xs, fss, N, rfl, rfl, h1, h2, hp, q⟩ := h
  refine ⟨_, .list [], .lst (SqL.of h1) (dp_lv hp), .lst (SqL.of h2) .nil, sh_lv _, by decide, ?_⟩
  have e : PyData.eqv (.list (fss.map fun fs => PyData.list (dvs (fs.map fun p => ((p : Nat) : Int))))) (.list []) = fss.isEmpty := by cases fss <;> rfl
  rw [e]
  exact q
def sp_falls : Sp := fun vs H Q _ => ∃ (a ca sa : Addr) (sp : Int) (xs : List V) (sts : List Stp), vs = [.ref a] ∧ H a = some (.tup [.ref ca, .int sp, .ref sa]) ∧ H sa = some (.lst xs) ∧ Paired (StepV H) xs sts ∧ 0 < sp ∧ xs.length ≤ 100 ∧
  (∀ f ws, some (f, ws) ∈ sts → ws.length ≤ 100) ∧ (allP sp 0 sts).length ≤ 5 ∧ (∀ j < (rnk sts (allP sp 0 sts)).length, gE (rnk sts (allP sp 0 sts)) j ≤ 98) ∧
  ∀ l H' ys fss, Same H H' → H l = none → H' l = some (.lst ys) → Paired (LV (fun b => H b = none) H') ys fss → (∀ r, r ∈ fss ↔ FallS (rnk sts (allP sp 0 sts)) r) → fss.length ≤ 326 → Q (.ref l) H'
section
variable {P : Program} {w : World} {K : PySem.W.Frag} {mg : Str → Option Value} {base : Heap}
end
end Af

set_option Elab.async false
set_option linter.all false
set_option maxRecDepth 100000
set_option maxHeartbeats 4000000
namespace Af
open PySem L2
def goodB (sp : Int) (sts : List Stp) (cs : List Int) (pt : Ptn) (Tl Gl : List Nat) (Dl : List (Nat × Nat)) (r : List Nat) : Bool := agB pt (overF (allP sp 0 sts) cs r) && fitL Tl Gl Dl r
def sp_good : Sp := fun vs H Q _ => ∃ (a ca sa pa l : Addr) (v : V) (sp : Int) (xs : List V) (sts : List Stp) (cs : List Int) (pt : Ptn) (Tl Gl : List Nat) (Dl : List (Nat × Nat)) (t g d : Addr) (ys : List V) (fss : List (List Nat)), vs = [.ref a, .ref pa, v, .ref l] ∧
  H a = some (.tup [.ref ca, .int sp, .ref sa]) ∧ H ca = some (.tup (ivs cs)) ∧ H sa = some (.lst xs) ∧ Paired (StepV H) xs sts ∧ 0 < sp ∧ xs.length ≤ 100 ∧ (∀ x ∈ sts, OkS cs.length x) ∧ cs.length ≤ 24 ∧
  PatV H pa pt ∧ OkPt cs.length pt ∧ pt.length ≤ 1000 ∧ ClV H v Tl Gl Dl t g d ∧ Tl.length ≤ 20 ∧ Gl.length ≤ 20 ∧ Dl.length ≤ 20 ∧ H l = some (.lst ys) ∧ Paired (LV (fun _ => True) H) ys fss ∧ (∀ r ∈ fss, r.length ≤ 60 ∧ ∀ k ∈ r, k < (allP sp 0 sts).length) ∧ fss.length ≤ 1000 ∧
  ∀ l' H' zs, Same H H' → H l' = none → H' l' = some (.lst zs) → Paired (LV (fun _ => True) H') zs (fss.filter (goodB sp sts cs pt Tl Gl Dl)) → Q (.ref l') H'
section
variable {P : Program} {w : World} {K : PySem.W.Frag} {mg : Str → Option Value} {base : Heap}
end
end Af

set_option Elab.async false
set_option linter.all false
set_option maxRecDepth 100000
set_option maxHeartbeats 4000000
namespace Af
open PySem L2
/-! falls that go on from what has begun -/
theorem may_iff {G : List Nat} {D : List (Nat × Nat)} {b : List Nat} (nd : b.Nodup) (ne : ∀ d ∈ D, d.1 ≠ d.2) : mayB G D b = true ↔ MayS G D b := by
  unfold mayB
  rw [Bool.and_eq_true, Bool.not_eq_true', Bool.not_eq_true', List.any_eq_false, List.any_eq_false]
  constructor
  · rintro ⟨h1, h2⟩
    refine ⟨fun x hx m => h1 x hx (List.contains_iff_mem.mpr m), fun d hd m => ?_⟩
    have := h2 d hd
    unfold mayP at this
    rw [List.contains_iff_mem.mpr m, Bool.true_and, Bool.not_eq_true', Bool.not_eq_false, List.contains_iff_mem] at this
    have m1 : d.1 ∈ b := List.mem_of_mem_take this
    exact (bef_idx nd).mpr ⟨m1, m, (take_idx m1 m).mp this⟩
  · rintro ⟨h1, h2⟩
    refine ⟨fun x hx m => h1 x hx (List.contains_iff_mem.mp m), fun d hd => ?_⟩
    intro z
    unfold mayP at z
    rw [Bool.and_eq_true, Bool.not_eq_true', List.contains_iff_mem] at z
    obtain ⟨m1, m2, lt⟩ := (bef_idx nd).mp (h2 d hd z.1)
    have := List.contains_iff_mem.mpr ((take_idx m1 m2).mpr lt)
    rw [z.2] at this
    cases this
theorem may_fit {T G : List Nat} {D : List (Nat × Nat)} {b s : List Nat} (nd : (b ++ s).Nodup) (ft : FitS T G D (b ++ s)) : MayS G D b := by
  refine ⟨fun x hx m => ft.g x hx (List.mem_append.mpr (.inl m)), fun d hd m => ?_⟩
  have nb := (List.nodup_append.mp nd).1
  obtain ⟨m1, m2, lt⟩ := (bef_idx nd).mp (ft.d d hd)
  have i2 := List.idxOf_lt_length_of_mem m
  have e2 : (b ++ s).idxOf d.2 = b.idxOf d.2 := by rw [List.idxOf_append, if_pos m]
  have m1b : d.1 ∈ b := by
    by_cases c : d.1 ∈ b
    · exact c
    · rw [List.idxOf_append, if_neg c] at lt
      omega
  have e1 : (b ++ s).idxOf d.1 = b.idxOf d.1 := by rw [List.idxOf_append, if_pos m1b]
  exact (bef_idx nb).mpr ⟨m1b, m, by omega⟩
section
variable {h : Hd} {pl : Pl} {pt : Ptn} {T G : List Nat} {D : List (Nat × Nat)} {begun : List Nat}
theorem fb_some (o : OkP pl) (op : OkPt pl.cs.length pt) (hd : HdOk h pl pt T G D begun) (cl : Cw (rkP pl) T G D) (fb : FallS (rkP pl) begun) (mb : mayB G D begun = true) {r : List Nat} (e : fbO h pl T G D begun = some r) : GoodS pl pt T G D (begun ++ r) := by
  have mn : MayS G D begun := (may_iff fb.nd fun d hd => (cl.db d hd).2.2).mp mb
  obtain ⟨g1, g2, g3⟩ := find_good (sp := gM h.ss) (to := gM h.ts) (sure := sureH h) (first := h.first) (asked := h.asked) (hnt_of hd cl) (fun e p => sure_iff hd e p) fb mn (fun e he => okE_mis he) e
  have g4 := (okR_ag o op.nd hd fb.lt r.reverse h.asked fun p hp => g1.lt p (List.mem_append.mpr (.inr (List.mem_reverse.mp hp)))).mp g3
  rw [List.reverse_reverse, hd.asked] at g4
  exact ⟨g1, g2, (ag_all op.nd _).mp g4⟩
theorem fb_no (o : OkP pl) (op : OkPt pl.cs.length pt) (hd : HdOk h pl pt T G D begun) (cl : Cw (rkP pl) T G D) (fb : FallS (rkP pl) begun) (e : fbO h pl T G D begun = none) (r : List Nat) (g : GoodS pl pt T G D (begun ++ r)) : False := by
  obtain ⟨g1, g2, g3⟩ := g
  have g4 := (ag_all op.nd _).mpr g3
  rw [← hd.asked] at g4
  have g5 := (okR_ag o op.nd hd fb.lt r.reverse h.asked fun p hp => g1.lt p (List.mem_append.mpr (.inr (List.mem_reverse.mp hp)))).mpr (by rw [List.reverse_reverse]; exact g4)
  refine find_all (sp := gM h.ss) (to := gM h.ts) (sure := sureH h) (first := h.first) (asked := h.asked) (hnt_of hd cl) (fun e p => sure_iff hd e p) (fun e nm ow => okE_of nm ow) (E := bars pl.sts + 1) (fun p hp => ?_) (by omega) fb (k := bars pl.sts + 1 - lastN (rkP pl) begun) (by omega) e r g1 g2 g5
  obtain ⟨z, z1, z2⟩ := rk_in hp
  omega
end
/-- fall_behind called: a good fall that goes on, or none does -/
theorem fb_call {C : Addr} {H : Hp} {x v : V} {pa b : Addr} {pl : Pl} {sl ql el t g d : Addr} {pt : Ptn} {T G : List Nat} {D : List (Nat × Nat)} {begun : List Nat} {Q : VK} {E : XK} (pF : PlanF C H x pl sl ql el) (hp : PatV H pa pt) (op : OkPt pl.cs.length pt) (cv : ClV H v T G D t g d) (cw : Cw (rkP pl) T G D)
    (hb : H b = some (.lst (nvs begun))) (fb : FallS (rkP pl) begun) (kn : ∀ H', Same H H' → (∀ s, ¬ GoodS pl pt T G D (begun ++ s)) → Q .non H')
    (kl : ∀ l H' s, Same H H' → H l = none → H' l = some (.lst (nvs (begun ++ s))) → GoodS pl pt T G D (begun ++ s) → Q (.ref l) H') : sp_fb C [x, .ref pa, v, .ref b] H Q E := by
  have l40 : begun.length ≤ 40 := Nat.le_trans fb.len (by rw [rkP_len]; exact pF.ok.pc)
  refine ⟨pa, b, x, v, pl, sl, ql, el, t, g, d, pt, T, G, D, begun, rfl, pF, hp, op, cv, cw, ⟨pF, hb, fb.lt, (fallS_iff.mp fb).2, by omega⟩, l40, fun z H' s' => kn H' s' fun s gs => ?_, fun mb v' H' h s' hd gv nf => ?_⟩
  · have := (may_iff fb.nd fun d hd => (cw.db d hd).2.2).mpr (may_fit gs.1.nd gs.2.1)
    rw [z] at this
    cases this
  · cases e : fbO h pl T G D begun with
    | none =>
      rw [e] at gv
      have gv : v' = .non := gv
      subst gv
      exact kn H' s' fun s gs => fb_no pF.ok op hd cw fb e s gs
    | some r =>
      rw [e] at gv
      obtain ⟨l, rfl, hl⟩ := gv
      exact kl l H' r s' (nf l rfl) hl (fb_some pF.ok op hd cw fb mb e)
theorem FallS.pre {es : List Int} {a b : List Nat} (h : FallS es (a ++ b)) : FallS es a := by
  refine ⟨(List.nodup_append.mp h.nd).1, fun p hp => h.lt p (List.mem_append.mpr (.inl hp)), fun X p Y e j hj lt => ?_⟩
  exact h.lo X p (Y ++ b) (by rw [e]; simp) j hj lt
end Af

set_option Elab.async false
set_option linter.all false
set_option maxRecDepth 100000
namespace Af
open PySem PySem.Spec PyProof.Rows L2
/-! x(e, .., *y), x a def of the text -/
section
variable {X : Cx} {k j : Nat} {x : Str} {ps : List Str} {sp : Sp} {e : Expr} {es : List Expr} {t : TA} {p pos : Pos}
theorem pe_calS (c : Cal X.prog X.w X.K X.mg X.base k x ps sp) (hr : Room j X.A) (ha : PA X (e :: es) t) (hkj : k ≤ j := by decide) (hg : Gl X x := by rfl) (hdb : (x == ("__debug__" : Str)) = false := by decide)
    (he : starEach (e :: es) X.env = (false, eval e X.env) :: starEach es X.env := by rfl) (hst : (backTo pos (starEach es X.env)).any (·.1) = true := by rfl) :
    PE X (.Call (.Name x p) (e :: es) [] pos) (tCal sp t) := by
  obtain ⟨f, fd, G, m, kp, b⟩ := c.ex
  have F := G.raw b (.nil : Vals [] [])
  have := StX.pe_callS2 (pos := pos) (p := p) (E := E0) F (hr.mono hkj) kp hg m pass0 ha hdb he hst
  refine ⟨fun pins s σ H Q I h => this.run pins s σ H Q I ?_⟩
  have e1 : (fun vs H Q E => sp (vs ++ []) H Q E) = sp := by
    funext vs H Q E
    rw [List.append_nil]
  show t σ H fun vs H1 => sp (vs ++ []) H1 Q E0
  simp only [List.append_nil]
  exact h
end
end Af

set_option Elab.async false
set_option linter.all false
set_option maxRecDepth 100000
set_option maxHeartbeats 2000000
namespace Af
open PySem PySem.Spec PyProof.Rows L2
/-! a def that may raise, as others call it; data of any kind, as the program's questions see it -/
structure CalX (P : Program) (w : World) (K : PySem.W.Frag) (mg : Str → Option Value) (base : Heap) (k : Nat) (x : Str) (ps : List Str) (sp : Sp) : Prop where
  ex : ∃ (f : Addr) (fd : FuncData), FnOk P w K mg base (L2.CX P w) k f fd ps sp ∧ mg x = some (.ref f) ∧ PySem.W.keepIn K (.ref f) = true ∧ Binds K fd ps []
section
variable {X : Cx} {k j : Nat} {x : Str} {ps : List Str} {sp : Sp} {e : Expr} {es : List Expr} {t : TA} {p pos : Pos} {E : L2.St → XK}
theorem pe_calX (c : CalX X.prog X.w X.K X.mg X.base k x ps sp) (hr : Room j X.A) (out : ∀ σ, PassesAt (L2.CX X.prog X.w) X σ (E σ)) (ha : PA X (e :: es) t) (hkj : k ≤ j := by decide) (hg : Gl X x := by rfl) (hdb : (x == ("__debug__" : Str)) = false := by decide)
    (he : starEach (e :: es) X.env = (false, eval e X.env) :: starEach es X.env := by rfl) (hpl : (backTo pos (starEach es X.env)).any (·.1) = false := by rfl) :
    PE X (.Call (.Name x p) (e :: es) [] pos) (tCallS sp E t) := by
  obtain ⟨f, fd, G, m, kp, b⟩ := c.ex
  exact pe_callS G (hr.mono hkj) hg m kp b out ha hdb he hpl
/-- where what is raised leaves the def -/
theorem outE {E : XK} (h : Passes (L2.CX X.prog X.w) X E) : ∀ σ, PassesAt (L2.CX X.prog X.w) X σ ((fun _ => E) σ) := fun σ pins H s e s' I c => h pins σ H s e s' I c
def rIsHeldTE (K : PySem.W.Frag) : List V → Hp → VK → Prop := fun xs H Q => ∃ D, L2.ExcC K D ∧ rIsHeldT K D xs H Q
theorem call_isHeldTE : CallR X (.builtin "isinstance") (rIsHeldTE X.K) := by
  intro pins s σ H xs us Q I r h
  obtain ⟨D, C, h⟩ := h
  exact call_isHeldT C pins s σ H xs us Q I r h
end
section
variable {K : PySem.W.Frag} {H : Hp}
theorem worths_ints {m : Int} : ∀ {xs : List V} {ds : List PyData}, DxAll K H xs ds → ds.all (idxD m) = true → ∃ ws, xs = ivs ws ∧ ds = dvs ws ∧ ∀ z ∈ ws, 0 ≤ z ∧ z < m
  | _, _, .nil, _ => ⟨[], rfl, rfl, fun z hz => by cases hz⟩
  | _, _, .cons (d := d) h t, q => by
    rw [List.all_cons, Bool.and_eq_true] at q
    obtain ⟨ws, e1, e2, b⟩ := worths_ints t q.2
    cases h with
    | int i =>
      have q1 : (decide (0 ≤ i) && decide (i < m)) = true := q.1
      rw [Bool.and_eq_true] at q1
      refine ⟨i :: ws, by rw [e1]; rfl, by rw [e2]; rfl, fun z hz => ?_⟩
      rcases List.mem_cons.mp hz with rfl | hz
      · exact ⟨of_decide_eq_true q1.1, of_decide_eq_true q1.2⟩
      · exact b z hz
    | _ => cases q.1
/-- what passes for worths is a tuple of small numbers -/
theorem worths_of {x : V} {d : PyData} (h : Dx K H x d) (q : worthsD d = true) : ∃ a ws, x = .ref a ∧ H a = some (.tup (ivs ws)) ∧ d = .tuple (dvs ws) ∧ 1 ≤ ws.length ∧ ∀ z ∈ ws, 0 ≤ z ∧ z < 8 := by
  cases h with
  | tup e t =>
    have q : (!_ && _) = true := q
    rw [Bool.and_eq_true] at q
    obtain ⟨ws, e1, e2, b⟩ := worths_ints t q.2
    subst e1 e2
    refine ⟨_, ws, rfl, e, rfl, ?_, b⟩
    cases ws with
    | nil => exact absurd q.1 (by simp [dvs])
    | cons z r => exact Nat.succ_le_succ (Nat.zero_le _)
  | _ => cases q
end
end Af

set_option Elab.async false
set_option linter.all false
set_option maxRecDepth 100000
set_option maxHeartbeats 8000000
namespace Af
open PySem L2
abbrev s_are_guards : Stmt := top 56
abbrev N_are_guards : List Str := ["plan", "thing", "guard"]
theorem sc_are_guards : FnScope N_are_guards ["plan", "thing"] (defScope s_are_guards) := ⟨rfl, rfl, rfl, by decide +kernel, rfl, by decide +kernel, by decide +kernel⟩

abbrev s_check_guards : Stmt := top 57
abbrev N_check_guards : List Str := ["plan", "guards"]
theorem sc_check_guards : FnScope N_check_guards ["plan", "guards"] (defScope s_check_guards) := ⟨rfl, rfl, rfl, by decide +kernel, rfl, by decide +kernel, by decide +kernel⟩

abbrev s_fall_leaving : Stmt := top 49
abbrev N_fall_leaving : List Str := ["plan", "pattern"]
theorem sc_fall_leaving : FnScope N_fall_leaving ["plan", "pattern"] (defScope s_fall_leaving) := ⟨rfl, rfl, rfl, by decide +kernel, rfl, by decide +kernel, by decide +kernel⟩

abbrev s_harm_to : Stmt := top 59
abbrev N_harm_to : List Str := ["plan", "guards", "index", "guard", "fall"]
theorem sc_harm_to : FnScope N_harm_to ["plan", "guards"] (defScope s_harm_to) := ⟨rfl, rfl, rfl, by decide +kernel, rfl, by decide +kernel, by decide +kernel⟩

abbrev s_harm : Stmt := top 58
abbrev N_harm : List Str := ["plan", "guards"]
theorem sc_harm : FnScope N_harm ["plan", "guards"] (defScope s_harm) := ⟨rfl, rfl, rfl, by decide +kernel, rfl, by decide +kernel, by decide +kernel⟩

abbrev s_does_harm : Stmt := top 61
abbrev N_does_harm : List Str := ["plan", "guards", "guard", "fall"]
theorem sc_does_harm : FnScope N_does_harm ["plan", "guards", "guard", "fall"] (defScope s_does_harm) := ⟨rfl, rfl, rfl, by decide +kernel, rfl, by decide +kernel, by decide +kernel⟩

abbrev s_is_harm : Stmt := top 60
abbrev N_is_harm : List Str := ["plan", "guards", "thing"]
theorem sc_is_harm : FnScope N_is_harm ["plan", "guards", "thing"] (defScope s_is_harm) := ⟨rfl, rfl, rfl, by decide +kernel, rfl, by decide +kernel, by decide +kernel⟩

/-- guards -/
def PatE (H : Hp) (x : V) (ps : Ptn) : Prop := ∃ a, x = .ref a ∧ PatV H a ps
structure GdV (H : Hp) (ga : Addr) (n : Nat) (gs : List Ptn) : Prop where
  ex : ∃ xs, H ga = some (.lst xs) ∧ Paired (PatE H) xs gs
  ok : ∀ ps ∈ gs, OkPt n ps ∧ ps.length ≤ 24
  l : gs.length ≤ 99
theorem PatE.same {H H' : Hp} {x : V} {ps : Ptn} (s : Same H H') (h : PatE H x ps) : PatE H' x ps := by
  obtain ⟨a, e, h⟩ := h
  exact ⟨a, e, h.same s⟩
theorem PatE.kp {p : Addr} {H H' : Hp} {x : V} {ps : Ptn} (k : Kp p H H') (h : PatE H x ps) : PatE H' x ps := by
  obtain ⟨a, e, h⟩ := h
  exact ⟨a, e, h.kp k⟩
theorem GdV.same {H H' : Hp} {ga : Addr} {n : Nat} {gs : List Ptn} (h : GdV H ga n gs) (s : Same H H') : GdV H' ga n gs := by
  obtain ⟨xs, h1, h2⟩ := h.ex
  exact ⟨⟨xs, s _ _ h1, L2.Paired.mapP h2 fun _ _ z => z.same s⟩, h.ok, h.l⟩
theorem GdV.kp {p : Addr} {H H' : Hp} {ga : Addr} {n : Nat} {gs : List Ptn} (h : GdV H ga n gs) (k : Kp p H H') (ne : ga ≠ p) : GdV H' ga n gs := by
  obtain ⟨xs, h1, h2⟩ := h.ex
  exact ⟨⟨xs, k.lst ne h1, L2.Paired.mapP h2 fun _ _ z => z.kp k⟩, h.ok, h.l⟩
theorem GdV.at {H : Hp} {ga : Addr} {n : Nat} {gs : List Ptn} (h : GdV H ga n gs) : ∃ xs, H ga = some (.lst xs) ∧ xs.length = gs.length ∧ ∀ i (hi : i < gs.length), ∃ a, xs[i]? = some (.ref a) ∧ PatV H a gs[i] ∧ OkPt n gs[i] ∧ gs[i].length ≤ 24 := by
  obtain ⟨xs, h1, h2⟩ := h.ex
  have l := paired_len h2
  refine ⟨xs, h1, l, fun i hi => ?_⟩
  have il : i < xs.length := by omega
  obtain ⟨ps, e, a, e2, pv⟩ := paired_get h2 (List.getElem?_eq_getElem il)
  rw [List.getElem?_eq_getElem hi] at e
  cases e
  obtain ⟨o, l24⟩ := h.ok _ (List.getElem_mem hi)
  exact ⟨a, by rw [List.getElem?_eq_getElem il, e2], pv, o, l24⟩
theorem ty_tX {K : PySem.W.Frag} {H : Hp} {a : Addr} {xs : List V} (h : H a = some (.tup xs)) : Ty K H (.ref a) "tuple" := ⟨.tup h, by decide, fun b o u e z => by cases e; rw [h] at z; cases z⟩
theorem ty_lX {K : PySem.W.Frag} {H : Hp} {a : Addr} {xs : List V} (h : H a = some (.lst xs)) : Ty K H (.ref a) "list" := ⟨.lst h, by decide, fun b o u e z => by cases e; rw [h] at z; cases z⟩
theorem cl_nil (pl : Pl) : Cl (rkP pl) [] [] [] :=
  ⟨⟨Nat.zero_le _, Nat.zero_le _, Nat.zero_le _, fun _ h => (by cases h), fun _ h => (by cases h), fun _ h => (by cases h), fun _ h => (by cases h), fun _ h => (by cases h),
    ⟨_, fall_rise (T := []) (G := []) (f := []) ⟨List.Pairwise.nil, fun _ h => (by cases h), fun X p Y e => (by simp at e)⟩ ⟨fun _ h => (by cases h), fun _ h => (by cases h), fun _ h => (by cases h)⟩ (gE_nn pl)⟩⟩, List.Pairwise.nil, List.Pairwise.nil, List.Pairwise.nil⟩
theorem dx_list_or {K : PySem.W.Frag} {H : Hp} {x : V} {d : PyData} (h : Dx K H x d) : (∃ a xs ds, x = .ref a ∧ H a = some (.lst xs) ∧ d = .list ds ∧ DxAll K H xs ds) ∨ (∃ n, Ty K H x n ∧ isB n "list" = false ∧ ∀ ds, d ≠ .list ds) := by
  cases h with
  | non => exact .inr ⟨_, ⟨.non, by decide, fun _ _ _ e => by cases e⟩, by decide, fun _ e => by cases e⟩
  | bl b => exact .inr ⟨_, ⟨.bl b, by decide, fun _ _ _ e => by cases e⟩, by decide, fun _ e => by cases e⟩
  | int i => exact .inr ⟨_, ⟨.int i, by decide, fun _ _ _ e => by cases e⟩, by decide, fun _ e => by cases e⟩
  | str z => exact .inr ⟨_, ⟨.str z, by decide, fun _ _ _ e => by cases e⟩, by decide, fun _ e => by cases e⟩
  | lst e t => exact .inl ⟨_, _, _, rfl, e, rfl, t⟩
  | tup e t => exact .inr ⟨_, ⟨.tup e, by decide, fun b o u z q => by cases z; rw [e] at q; cases q⟩, by decide, fun _ e => by cases e⟩
  | dic e t => exact .inr ⟨_, ⟨.dK e, by decide, fun b o u z q => by cases z; rw [e] at q; cases q⟩, by decide, fun _ e => by cases e⟩
def guardsB (n : Nat) : PyData → Bool
  | .list ds => decide (ds.length ≤ 99) && ds.all (patB n)
  | _ => false
def SzGd (d : PyData) : Prop := ∀ ds, d = .list ds → ds.length ≤ 1000 ∧ ∀ e ∈ ds, SzP e
def sp_are_guards (K : PySem.W.Frag) (C : Addr) : Sp := fun vs H Q _ => ∃ (x v : V) (pl : Pl) (sl ql el : Addr) (d : PyData), vs = [x, v] ∧ PlanF C H x pl sl ql el ∧ Dx K H v d ∧ SzGd d ∧ ∀ H', Same H H' → Q (.bl (guardsB pl.cs.length d)) H'
def sp_check_guards (K : PySem.W.Frag) (C IG : Addr) : Sp := fun vs H Q E => ∃ (x v : V) (pl : Pl) (sl ql el : Addr) (d : PyData), vs = [x, v] ∧ PlanF C H x pl sl ql el ∧ Dx K H v d ∧ SzGd d ∧ (guardsB pl.cs.length d = false → ∀ H', Same H H' → E (.ref IG) none H') ∧ (guardsB pl.cs.length d = true → ∀ H', Same H H' → Q .non H')
def sp_leave (C : Addr) : Sp := fun vs H Q _ => ∃ (x : V) (pa : Addr) (pl : Pl) (sl ql el : Addr) (pt : Ptn), vs = [x, .ref pa] ∧ PlanF C H x pl sl ql el ∧ PatV H pa pt ∧ OkPt pl.cs.length pt ∧
  (∀ H', Same H H' → (∀ r, ¬ GoodS pl pt [] [] [] r) → Q .non H') ∧ ∀ l H' r, Same H H' → H l = none → H' l = some (.lst (nvs r)) → GoodS pl pt [] [] [] r → Q (.ref l) H'
def sp_harm_to (C : Addr) : Sp := fun vs H Q _ => ∃ (x : V) (pl : Pl) (sl ql el ga : Addr) (gs : List Ptn), vs = [x, .ref ga] ∧ PlanF C H x pl sl ql el ∧ GdV H ga pl.cs.length gs ∧
  (∀ H', Same H H' → (∀ g ∈ gs, ∀ r, ¬ GoodS pl g [] [] [] r) → Q .non H') ∧
  ∀ t l H' i g r, Same H H' → H t = none → H l = none → H' t = some (.tup [.int ((i : Nat) : Int), .ref l]) → H' l = some (.lst (nvs r)) → gs[i]? = some g → GoodS pl g [] [] [] r → (∀ j g', j < i → gs[j]? = some g' → ∀ r, ¬ GoodS pl g' [] [] [] r) → Q (.ref t) H'
def sp_harm (K : PySem.W.Frag) (C IG : Addr) : Sp := fun vs H Q E => ∃ (x v : V) (pl : Pl) (sl ql el : Addr) (d : PyData), vs = [x, v] ∧ PlanF C H x pl sl ql el ∧ Dx K H v d ∧ SzGd d ∧ (guardsB pl.cs.length d = false → ∀ H', Same H H' → E (.ref IG) none H') ∧ (guardsB pl.cs.length d = true → ∃ ga gs, v = .ref ga ∧ GdV H ga pl.cs.length gs ∧ ∀ r H', Same H H' → Q r H')
def sp_is_harm (K : PySem.W.Frag) (C IG : Addr) : Sp := fun vs H Q E => ∃ (x v t : V) (pl : Pl) (sl ql el : Addr) (d : PyData), vs = [x, v, t] ∧ PlanF C H x pl sl ql el ∧ Dx K H v d ∧ SzGd d ∧ (guardsB pl.cs.length d = false → ∀ H', Same H H' → E (.ref IG) none H') ∧ (guardsB pl.cs.length d = true → t = .non ∧ ∀ H', Same H H' → Q (.bl false) H')
/-- of a def that is never reached -/
def sp_never : Sp := fun _ _ _ _ => False
section
variable {P : Program} {w : World} {K : PySem.W.Frag} {mg : Str → Option Value} {base : Heap}
theorem ok_never {f : Addr} {fd : FuncData} (F : Fun K "does_harm" "does_harm" s_does_harm f fd) : FnOk P w K mg base CX0 6 f fd ["plan", "guards", "guard", "fall"] sp_never :=
  F.ok sc_does_harm (fun vs H Q E h => h.elim) (fun cdv A outer s H vs Q E hr h => h.elim)
theorem ok_are_guards {f C : Addr} {fd : FuncData} (F : Fun K "are_guards" "are_guards" s_are_guards f fd) (T : Txt mg) (TC : PlanC K mg C) (mostG : ∃ t, mg "MOST_GUARDS" = some (.int 99 t)) (P_base : PropC P w K mg base C "base" (sp_p_base C)) (c_is_pattern : Cal P w K mg base 5 "is_pattern" ["cells", "thing"] (sp_is_pattern K)) :
    FnOk P w K mg base CX0 6 f fd ["plan", "thing"] (sp_are_guards K C) := by
  refine F.ok sc_are_guards (fun vs H Q E h => ?_) (fun cdv A outer s H vs Q E hr h => ?_)
  · obtain ⟨_, _, _, _, _, _, _, rfl, _⟩ := h
    rfl
  obtain ⟨x, v, pl, sl, ql, el, d, rfl, pF, q, sz0, k⟩ := h
  obtain ⟨tg, c_MOST_GUARDS⟩ := mostG
  refine ⟨_, (pss_cons (ps_cut (ps_if (PW.pt (pw_or (pt_not (pt_val (pe_callB call_isi' (by rfl) T.isinstance (by decide +kernel) (pa_cons (pv 1) (pa_cons (pe_bltn (v := .ty "list") (by rfl) T.list (by decide +kernel) rfl) pa_nil))))) (pw_or1 (pt_cmpR op_gt (pe_callB call_len' (by rfl) T.len (by decide +kernel) (pa_cons (pv 1) pa_nil)) (pe_glob (v := .int 99) rfl c_MOST_GUARDS ⟨_, rfl⟩) (nomark _)))))
      (pss_one (ps_ret pe_bl))
      pss_nil))
    (pss_one (ps_ret (pe_callB (cr_all rfl) (by rfl) T.all (by decide +kernel) (pa_cons (pe_lc (own := [("guard", 2)]) (g := (gName 2)) (tt := tYes) rfl sc_are_guards.nd (pi_list (pv 1)) (blkOk_by (own := [("guard", 2)]) (N := N_are_guards) (sc := defScope s_are_guards) (by decide +kernel)) (fun _ _ _ _ _ => pg_name (i := 2) sc_are_guards.nd rfl (Or.inl rfl)) (fun _ _ _ _ _ => pts_nil) (fun _ _ _ _ _ => (pe_cal c_is_pattern hr (pa_cons (pe_callB call_len' (by rfl) T.len (by decide +kernel) (pa_cons (pe_propC TC.cl P_base hr (pv 0)) pa_nil)) (pa_cons (pv 2) pa_nil))))) pa_nil))))), ?_⟩
  rcases dx_list_or q with ⟨ga, xs, ds, rfl, hg, rfl, hx⟩ | ⟨n, ty, nb, nl⟩
  rotate_left
  · refine ⟨fun σ' H' => False, ?_, fun _ _ z => z.elim⟩
    refine ⟨_, rfl, v, n, "list", rfl, ty, by decide, _, rfl, ?_⟩
    rw [nb]
    have e : guardsB pl.cs.length d = false := by
      cases d with
      | list ds => exact absurd rfl (nl ds)
      | _ => rfl
    rw [e] at k
    exact iteT (k H (Same.refl _))
  obtain ⟨len, small⟩ := sz0 ds rfl
  have xl := hx.len
  refine ⟨fun σ' H' => σ' = [some x, some (.ref ga), none] ∧ H = H' ∧ ds.length ≤ 99, ?_, ?_⟩
  · refine ⟨_, rfl, _, "list", "list", rfl, ty_lX hg, by decide, _, rfl, ?_⟩
    rw [show isB "list" "list" = true by decide]
    refine iteF ⟨_, rfl, ga, _, rfl, .inl hg, _, _, rfl, rfl, _, rfl, ite2 (fun z => ?_) (fun z => ⟨rfl, rfl, ?_⟩)⟩
    · have := of_decide_eq_true z
      have e : guardsB pl.cs.length (.list ds) = false := by
        show (decide (ds.length ≤ 99) && _) = false
        rw [decide_eq_false (by omega)]
        rfl
      rw [e] at k
      exact k H (Same.refl _)
    · have : ¬ _ := fun h => z (decide_eq_true h)
      omega
  rintro _ _ ⟨rfl, rfl, l99⟩
  obtain ⟨pa, ca, xs0, ys0, rfl, pX, hca, _, _⟩ := pF.ex
  obtain ⟨dx, fs, hx0, _⟩ := pX.px
  refine ⟨_, rfl, ga, rfl, ⟨_, SqL.of hg⟩, fun D hD => lc_list (K := K) (a := ga) (xs := xs) (fun i H' => Same H H' ∧ H' D = some (.lst (((ds.take i).map (patB (pl.cs.length : Nat))).map V.bl))) ?_ ?_ ?_ ?_⟩
  · exact ⟨same_new hD, upd_same⟩
  · rintro i H' _ ⟨s1, _⟩
    exact SqL.of (s1 _ _ hg)
  · rintro i y H' hy ⟨s1, h1⟩
    obtain ⟨e, he, hye⟩ := (DxAll.same s1 hx).at hy
    refine ⟨rfl, _, rfl, pa, dx, fs, rfl, s1 _ _ hx0, pa, ca, sl, ql, el, pl, xs0, ys0, rfl, pX.same s1, ca, _, rfl, .inr (s1 _ _ hca), ?_⟩
    rw [ivs_len]
    refine ⟨_, rfl, _, y, e, rfl, hye, small e (List.mem_of_getElem? he), fun H2 s2 => ?_⟩
    refine ⟨_, s2 _ _ h1, szl (by rw [List.length_map, List.length_map, List.length_take]; omega), same_mut (s1.trans s2) hD, ?_⟩
    rw [upd_same, List.take_add_one, he, List.map_append, List.map_append]
    rfl
  · rintro H1 ⟨s1, h1⟩
    rw [xl, List.take_length] at h1
    refine ⟨D, _, rfl, SqL.of h1, ?_⟩
    rw [all_map]
    have e : guardsB pl.cs.length (.list ds) = ds.all (patB (pl.cs.length : Nat)) := by
      show (decide (ds.length ≤ 99) && _) = _
      rw [decide_eq_true l99, Bool.true_and]
    rw [e] at k
    exact k H1 s1
theorem ok_check_guards {f C IG : Addr} {fd : FuncData} (F : Fun K "check_guards" "check_guards" s_check_guards f fd) (T : Txt mg) (XG : ExcC K mg "InvalidGuards" IG) (c_are_guards : Cal P w K mg base 6 "are_guards" ["plan", "thing"] (sp_are_guards K C)) : FnOk P w K mg base (L2.CX P w) 7 f fd ["plan", "guards"] (sp_check_guards K C IG) := by
  refine F.okX sc_check_guards (fun vs H Q E h => ?_) (fun cdv A outer s H vs Q E hr h => ?_)
  · obtain ⟨_, _, _, _, _, _, _, rfl, _⟩ := h
    rfl
  obtain ⟨x, v, pl, sl, ql, el, d, rfl, pF, q, sz0, k1, k2⟩ := h
  refine ⟨_, (pss_one (ps_if (pt_not (pt_val (pe_cal c_are_guards hr (pa_cons (pv 0) (pa_cons (pv 1) pa_nil)))))
      (pss_one (ps_raise rfl (takes_of rfl rfl rfl rfl) (pmk_own PySem.F.excBase_ValueError XG.xP XG.gP XG.kP (raises_own XG.bP XG.tP) rfl)))
      pss_nil)), ?_⟩
  refine ⟨_, rfl, _, rfl, x, v, pl, sl, ql, el, d, rfl, pF, q, sz0, fun H1 s1 => ⟨_, rfl, ?_⟩⟩
  cases c : guardsB pl.cs.length d with
  | false => exact iteT (k1 c H1 s1)
  | true => exact iteF (k2 c H1 s1)
theorem ok_leave {f C : Addr} {fd : FuncData} (F : Fun K "fall_leaving" "fall_leaving" s_fall_leaving f fd) (c_fall_behind : Cal P w K mg base 8 "fall_behind" ["plan", "pattern", "claims", "begun"] (sp_fb C)) : FnOk P w K mg base CX0 9 f fd ["plan", "pattern"] (sp_leave C) := by
  refine F.ok sc_fall_leaving (fun vs H Q E h => ?_) (fun cdv A outer s H vs Q E hr h => ?_)
  · obtain ⟨_, _, _, _, _, _, _, rfl, _⟩ := h
    rfl
  obtain ⟨x, pa, pl, sl, ql, el, pt, rfl, pF, hp, op, kn, kl⟩ := h
  refine ⟨_, (pss_one (ps_ret (pe_cal c_fall_behind hr (pa_cons (pv 0) (pa_cons (pv 1) (pa_cons (pe_tup' (pa_cons (pe_lst' pa_nil) (pa_cons (pe_lst' pa_nil) (pa_cons (pe_lst' pa_nil) pa_nil)))) (pa_cons (pe_lst' pa_nil) pa_nil))))))), ?_⟩
  refine ⟨_, rfl, _, rfl, szr, fun t Ha na sa ha => ⟨szr, fun g Hb nb sb hb => ⟨szr, fun d Hc nc sc hc => ⟨szr, fun tp Hd nd sd hd => ⟨szr, fun b He ne se he => ?_⟩⟩⟩⟩⟩
  dsimp only [tNil]
  have S := sa.trans (sb.trans (sc.trans (sd.trans se)))
  have clv : ClV He (.ref tp) [] [] [] t g d := ⟨tp, [], rfl, se _ _ hd, se _ _ (sd _ _ (sc _ _ (sb _ _ ha))), se _ _ (sd _ _ (sc _ _ hb)), se _ _ (sd _ _ hc), .nil⟩
  refine fb_call (pF.same S) (hp.same S) op clv (cl_nil pl).toCw he (begun := []) ⟨List.Pairwise.nil, fun _ h => (by cases h), fun X p Y e => (by simp at e)⟩ (fun H' s' no => kn H' (S.trans s') fun r gr => no r gr) fun l H' r s' nl hl gr => kl l H' r (S.trans s') (S.free nl) hl gr
theorem ok_harm_to {f C : Addr} {fd : FuncData} (F : Fun K "harm_to" "harm_to" s_harm_to f fd) (T : Txt mg) (c_fall_leaving : Cal P w K mg base 9 "fall_leaving" ["plan", "pattern"] (sp_leave C)) : FnOk P w K mg base CX0 10 f fd ["plan", "guards"] (sp_harm_to C) := by
  refine F.ok sc_harm_to (fun vs H Q E h => ?_) (fun cdv A outer s H vs Q E hr h => ?_)
  · obtain ⟨_, _, _, _, _, _, _, rfl, _⟩ := h
    rfl
  obtain ⟨x, pl, sl, ql, el, ga, gs, rfl, pF, G, kn, kf⟩ := h
  refine ⟨_, (pss_cons (ps_for PassesOwn.never rfl (pi_enum rfl T.enumerate (pa_cons (pv 1) pa_nil)) (pg_tup rfl (pgs_cons (pg_name (i := 2) sc_harm_to.nd rfl (Or.inl rfl)) (pgs_cons (pg_name (i := 3) sc_harm_to.nd rfl (Or.inl rfl)) pgs_nil)))
      (pss_cons (ps_set (i := 4) sc_harm_to.nd rfl (Or.inl rfl) (pe_cal c_fall_leaving hr (pa_cons (pv 0) (pa_cons (pv 3) pa_nil))))
    (pss_one (ps_if (pt_cmpR op_notN (pv 4) pe_non (nomark _))
      (pss_one (ps_ret (pe_tup' (pa_cons (pv 2) (pa_cons (pv 4) pa_nil)))))
      pss_nil))))
    (pss_one (ps_ret pe_non))), ?_⟩
  obtain ⟨xs, hg, xl, at_⟩ := G.at
  refine ⟨_, rfl, ga, xs, rfl, SqL.of hg, for_enum (K := K) (a := ga) (xs := xs) (fun i σ' H' => ∃ v2 v3 v4, σ' = [some x, some (.ref ga), v2, v3, v4] ∧ Same H H' ∧ ∀ j g, j < i → gs[j]? = some g → ∀ r, ¬ GoodS pl g [] [] [] r) ?_ ?_ ?_ ?_⟩
  · exact ⟨_, _, _, rfl, Same.refl _, fun j g hj => (by omega)⟩
  · rintro i σ' H' _ ⟨v2, v3, v4, rfl, s', _⟩
    exact SqL.of (s' _ _ hg)
  · rintro i y T0 σ' H' hy ⟨v2, v3, v4, rfl, s', no⟩ hT
    have il : i < gs.length := by have := (List.getElem?_eq_some_iff.mp hy).1; omega
    obtain ⟨b, e, pv, o, l24⟩ := at_ i il
    rw [hy] at e
    cases e
    have eg : gs[i]? = some gs[i] := List.getElem?_eq_getElem il
    have s1 : Same H' (upd H' T0 (.tup [.int (i : Nat), .ref b])) := same_new hT
    have S1 := s'.trans s1
    have stop : (∀ r, ¬ GoodS pl gs[i] [] [] [] r) → ∀ j g, j < i + 1 → gs[j]? = some g → ∀ r, ¬ GoodS pl g [] [] [] r := fun h j g hj ej r => by
      by_cases c : j = i
      · subst c
        rw [eg] at ej
        cases ej
        exact h r
      · exact no j g (by omega) ej r
    refine ⟨T0, _, rfl, SqT.of upd_same, rfl, _, _, rfl, _, _, rfl, rfl, ?_⟩
    refine ⟨_, rfl, _, rfl, ?_⟩
    dsimp only [tNil]
    refine ⟨x, b, pl, sl, ql, el, gs[i], rfl, pF.same S1, pv.same S1, o, fun H2 s2 nog => ?_, fun l H2 r s2 nl hl gr => ?_⟩
    · exact ⟨_, rfl, rfl, _, rfl, iteF' (by simp) ⟨_, _, _, rfl, S1.trans s2, stop nog⟩⟩
    · refine ⟨_, rfl, rfl, _, rfl, iteT' (by simp) ⟨_, rfl, _, rfl, szr, fun t H3 n3 s3 h3 => ?_⟩⟩
      exact kf t l H3 i gs[i] r (S1.trans (s2.trans s3)) ((S1.trans s2).free n3) (S1.free nl) h3 (s3 _ _ hl) eg gr no
  · rintro σ' H' ⟨v2, v3, v4, rfl, s', no⟩
    refine kn H' s' fun g hg r => ?_
    obtain ⟨j, hj⟩ := List.mem_iff_getElem?.mp hg
    exact no j g (by rw [xl]; exact (List.getElem?_eq_some_iff.mp hj).1) hj r
theorem ok_harm {f C IG : Addr} {fd : FuncData} (F : Fun K "harm" "harm" s_harm f fd) (T : Txt mg) (c_check_guards : CalX P w K mg base 7 "check_guards" ["plan", "guards"] (sp_check_guards K C IG)) (c_harm_to : Cal P w K mg base 10 "harm_to" ["plan", "guards"] (sp_harm_to C)) :
    FnOk P w K mg base (L2.CX P w) 11 f fd ["plan", "guards"] (sp_harm K C IG) := by
  refine F.okX sc_harm (fun vs H Q E h => ?_) (fun cdv A outer s H vs Q E hr h => ?_)
  · obtain ⟨_, _, _, _, _, _, _, rfl, _⟩ := h
    rfl
  obtain ⟨x, v, pl, sl, ql, el, d, rfl, pF, q, sz0, k1, k2⟩ := h
  refine ⟨_, (pss_cons (ps_expr (pe_calX c_check_guards hr (outE (passes_call (takes_of rfl rfl rfl rfl) (fun _ _ _ _ h => h))) (pa_cons (pv 0) (pa_cons (pv 1) pa_nil))))
    (pss_one (ps_ret (pe_cal c_harm_to hr (pa_cons (pv 0) (pa_cons (pv 1) pa_nil)))))), ?_⟩
  refine ⟨_, rfl, _, rfl, x, v, pl, sl, ql, el, d, rfl, pF, q, sz0, k1, fun c H1 s1 => ?_⟩
  obtain ⟨ga, gs, rfl, G, k⟩ := k2 c
  exact ⟨_, rfl, _, rfl, x, pl, sl, ql, el, ga, gs, rfl, pF.same s1, G.same s1, fun H2 s2 _ => k _ H2 (s1.trans s2), fun t l H2 i g r s2 _ _ _ _ _ _ _ => k _ H2 (s1.trans s2)⟩
theorem ok_is_harm {f C IG : Addr} {fd : FuncData} (F : Fun K "is_harm" "is_harm" s_is_harm f fd) (T : Txt mg) (c_check_guards : CalX P w K mg base 7 "check_guards" ["plan", "guards"] (sp_check_guards K C IG)) (c_does_harm : Cal P w K mg base 6 "does_harm" ["plan", "guards", "guard", "fall"] sp_never) :
    FnOk P w K mg base (L2.CX P w) 11 f fd ["plan", "guards", "thing"] (sp_is_harm K C IG) := by
  refine F.okX sc_is_harm (fun vs H Q E h => ?_) (fun cdv A outer s H vs Q E hr h => ?_)
  · obtain ⟨_, _, _, _, _, _, _, _, rfl, _⟩ := h
    rfl
  obtain ⟨x, v, t, pl, sl, ql, el, d, rfl, pF, q, sz0, k1, k2⟩ := h
  refine ⟨_, (pss_cons (ps_expr (pe_calX c_check_guards hr (outE (passes_call (takes_of rfl rfl rfl rfl) (fun _ _ _ _ h => h))) (pa_cons (pv 0) (pa_cons (pv 1) pa_nil))))
    (pss_cons (ps_cut (ps_if (PW.pt (pw_or (pt_not (pt_val (pe_callB call_isi' (by rfl) T.isinstance (by decide +kernel) (pa_cons (pv 2) (pa_cons (pe_bltn (v := .ty "tuple") (by rfl) T.tuple (by decide +kernel) rfl) pa_nil))))) (pw_or1 (pt_cmpR op_ne (pe_callB call_len' (by rfl) T.len (by decide +kernel) (pa_cons (pv 2) pa_nil)) pe_int (nomark _)))))
      (pss_one (ps_ret pe_bl))
      pss_nil))
    (pss_one (ps_ret (pe_calS c_does_harm hr (pa_cons (pv 0) (pa_cons (pv 1) (StX.pa_star (pv 2) pa_nil)))))))), ?_⟩
  refine ⟨_, rfl, _, rfl, x, v, pl, sl, ql, el, d, rfl, pF, q, sz0, k1, fun c H1 s1 => ?_⟩
  obtain ⟨rfl, k⟩ := k2 c
  refine ⟨fun σ' H' => False, ?_, fun _ _ z => z.elim⟩
  refine ⟨_, rfl, .non, "NoneType", "tuple", rfl, ⟨.non, by decide, fun _ _ _ e => by cases e⟩, by decide, _, rfl, ?_⟩
  exact iteT (k H1 s1)
end
end Af

set_option Elab.async false
set_option linter.all false
set_option maxRecDepth 100000
set_option maxHeartbeats 8000000
namespace Af
open PySem L2
abbrev s_l_error : Stmt := top 81
abbrev N_l_error : List Str := ["_law_made", "_law_guards_here", "_law_road", "_law_thing", "_law_caught", "_law_found", "e"]
theorem sc_l_error : FnScope N_l_error ["_law_made", "_law_guards_here", "_law_road", "_law_thing"] (defScope s_l_error) := ⟨rfl, rfl, rfl, by decide +kernel, rfl, by decide +kernel, by decide +kernel⟩

def sp_error (K : PySem.W.Frag) (C : Addr) : Sp := fun vs H Q _ => ∃ (x v t : V) (r : Int) (pl : Pl) (sl ql el : Addr) (d : PyData), vs = [x, v, .int r, t] ∧ PlanF C H x pl sl ql el ∧ Dx K H v d ∧ SzGd d ∧
  ((guardsB pl.cs.length d = false ∧ ∀ H', Same H H' → Q (.str "guards") H') ∨ (guardsB pl.cs.length d = true ∧ t = .non ∧ (∃ ga gs, v = .ref ga ∧ GdV H ga pl.cs.length gs) ∧ ∀ H', Same H H' → Q (.str "right") H'))
/-- the classes of errors that the law names -/
structure ErrC (K : PySem.W.Frag) (mg : Str → Option Value) (CF IF IP IG : Addr) : Prop where
  gF : mg "FallError" = some (.ref CF)
  gI : mg "InvalidFall" = some (.ref IF)
  gP : mg "InvalidPattern" = some (.ref IP)
  gG : mg "InvalidGuards" = some (.ref IG)
  ex : PySem.W.exmOne K (.ref IG) (.ref CF) = some true
  c : L2.ExcC K IG
  n : PySem.W.kitAny K (.ref IG) [.ref IF, .ref IP] = some false
  k : PySem.W.kitOne K (.ref IG) (.ref IG) = some true
section
variable {P : Program} {w : World} {K : PySem.W.Frag} {mg : Str → Option Value} {base : Heap}
def tb_l_error (K : PySem.W.Frag) (C IG : Addr) (W : WX) : TS := tAsg (tIf (tTest (tOp rEq (tVar 2) (tC (.int 0)))) (tCallS (sp_harm K C IG) (WE W) (tCons (tVar 0) (tCons (tVar 1) tNil))) (tCallS (sp_is_harm K C IG) (WE W) (tCons (tVar 0) (tCons (tVar 1) (tCons (tVar 3) tNil))))) (gName 5)
def ts_l_error (_ : Addr) (_ : Value) (_ : Option Addr) : TS := tAsg (tVar 6) (gName 4)
theorem ok_error {f C CF IF IP IG : Addr} {fd : FuncData} (F : Fun K "_law_error" "_law_error" s_l_error f fd) (T : Txt mg) (X : ErrC K mg CF IF IP IG) (c_harm : CalX P w K mg base 11 "harm" ["plan", "guards"] (sp_harm K C IG))
    (c_is_harm : CalX P w K mg base 11 "is_harm" ["plan", "guards", "thing"] (sp_is_harm K C IG)) : FnOk P w K mg base CX0 12 f fd ["_law_made", "_law_guards_here", "_law_road", "_law_thing"] (sp_error K C) := by
  have g_FallError := X.gF
  have g_I := X.gI
  have g_P := X.gP
  have g_G := X.gG
  refine F.ok sc_l_error (fun vs H Q E h => ?_) (fun cdv A outer s H vs Q E hr h => ?_)
  · obtain ⟨_, _, _, _, _, _, _, _, _, rfl, _⟩ := h
    rfl
  obtain ⟨x, v, t, r, pl, sl, ql, el, d, rfl, pF, q, sz0, k⟩ := h
  refine ⟨_, (pss_cons (ps_set (i := 4) sc_l_error.nd rfl (Or.inl rfl) pe_non)
    (pss_cons (ps_set (i := 5) sc_l_error.nd rfl (Or.inl rfl) pe_non)
    (pss_cons (ps_try_hold (i := 6) (tb := tb_l_error K C IG) (ts := ts_l_error) (Wout := fun _ _ _ _ => False) rfl rfl sc_l_error.nd rfl rfl rfl ⟨rfl, by decide, .inl g_FallError⟩ takes0
      (fun W pn xe tk _ => (pss_one (ps_set (i := 5) sc_l_error.nd rfl (Or.inl rfl) (pe_ifExp (pt_cmpR op_eq (pv 2) pe_int (nomark _)) (pe_calX c_harm hr (fun σ => passAt tk σ) (pa_cons (pv 0) (pa_cons (pv 1) pa_nil))) (pe_calX c_is_harm hr (fun σ => passAt tk σ) (pa_cons (pv 0) (pa_cons (pv 1) (pa_cons (pv 3) pa_nil))))))))
      (fun a oe cls d pn hz hf => (pss_one (ps_set (i := 4) sc_l_error.nd rfl (Or.inl rfl) (pv 6)))))
    (pss_cons (ps_cut (ps_if (PW.pt (pw_or (pt_cmpR op_isN (pv 4) pe_non (nomark _)) (pw_or1 (pt_val (pe_callB call_isHeldTE (by rfl) T.isinstance (by decide +kernel) (pa_cons (pv 4) (pa_cons (pe_tup' (pa_cons (pe_glob (v := .ref IF) rfl g_I rfl) (pa_cons (pe_glob (v := .ref IP) rfl g_P rfl) pa_nil))) pa_nil)))))))
      (pss_one (ps_ret (pe_ifExp (pt_cmpR op_isN (pv 4) pe_non (nomark _)) pe_str pe_str)))
      pss_nil))
    (pss_one (ps_ret (pe_ifExp (pt_val (pe_callB call_isHeldE (by rfl) T.isinstance (by decide +kernel) (pa_cons (pv 4) (pa_cons (pe_glob (v := .ref IG) rfl g_G rfl) pa_nil)))) pe_str pe_str))))))), ?_⟩
  refine ⟨_, rfl, rfl, _, rfl, ite2 (fun z => ?_) (fun z => ?_)⟩
  · exact ⟨_, rfl, _, rfl, x, v, pl, sl, ql, el, d, rfl, pF, q, sz0, fun e => fun H1 s1 => by
    have k : ∀ H', Same H H' → Q (.str "guards") H' := by
      rcases k with ⟨_, k⟩ | ⟨e', _⟩
      · exact k
      · rw [e] at e'
        cases e'
    refine ⟨true, X.ex, fun _ b na => ⟨_, rfl, ?_⟩, fun y => by cases y⟩
    have sb := s1.trans (same_new (o := HeldE (.ref IG) none b) na)
    have hb : (L2.upd H1 b (HeldE (.ref IG) none b)) b = some (HeldE (.ref IG) none b) := upd_same
    refine ⟨fun σ' H' => σ' = [some x, some v, some (.int r), some t, some (.ref b), some .non, none] ∧ Same H H' ∧ H' b = some (HeldE (.ref IG) none b), ?_, ?_⟩
    · exact ⟨_, rfl, rfl, _, rfl, iteF ⟨_, rfl, szr, fun tp H3 _ s3 h3 => ⟨IG, X.c, b, tp, _, _, false, rfl, s3 _ _ hb, h3, .cons (.own IF) (.cons (.own IP) .nil), X.n, _, rfl, iteF ⟨rfl, sb.trans s3, s3 _ _ hb⟩⟩⟩⟩
    rintro _ H2 ⟨rfl, sb, hb⟩
    exact ⟨_, rfl, IG, X.c, b, _, _, true, rfl, hb, .own IG, X.k, _, rfl, iteT (k H2 sb)⟩, fun e => by
    obtain ⟨rfl, ⟨ga, gs, rfl, G⟩, kk⟩ : t = .non ∧ (∃ ga gs, v = .ref ga ∧ GdV H ga pl.cs.length gs) ∧ ∀ H', Same H H' → Q (.str "right") H' := by
      rcases k with ⟨e', _⟩ | ⟨_, k⟩
      · rw [e] at e'
        cases e'
      · exact k
    exact ⟨ga, gs, rfl, G, fun r1 H1 s1 => by
      refine ⟨fun σ' H' => False, ?_, fun _ _ q => q.elim⟩
      exact ⟨_, rfl, rfl, _, rfl, iteT ⟨_, rfl, rfl, _, rfl, iteT (kk H1 s1)⟩⟩⟩⟩
  · exact ⟨_, rfl, _, rfl, _, rfl, x, v, t, pl, sl, ql, el, d, rfl, pF, q, sz0, fun e => fun H1 s1 => by
    have k : ∀ H', Same H H' → Q (.str "guards") H' := by
      rcases k with ⟨_, k⟩ | ⟨e', _⟩
      · exact k
      · rw [e] at e'
        cases e'
    refine ⟨true, X.ex, fun _ b na => ⟨_, rfl, ?_⟩, fun y => by cases y⟩
    have sb := s1.trans (same_new (o := HeldE (.ref IG) none b) na)
    have hb : (L2.upd H1 b (HeldE (.ref IG) none b)) b = some (HeldE (.ref IG) none b) := upd_same
    refine ⟨fun σ' H' => σ' = [some x, some v, some (.int r), some t, some (.ref b), some .non, none] ∧ Same H H' ∧ H' b = some (HeldE (.ref IG) none b), ?_, ?_⟩
    · exact ⟨_, rfl, rfl, _, rfl, iteF ⟨_, rfl, szr, fun tp H3 _ s3 h3 => ⟨IG, X.c, b, tp, _, _, false, rfl, s3 _ _ hb, h3, .cons (.own IF) (.cons (.own IP) .nil), X.n, _, rfl, iteF ⟨rfl, sb.trans s3, s3 _ _ hb⟩⟩⟩⟩
    rintro _ H2 ⟨rfl, sb, hb⟩
    exact ⟨_, rfl, IG, X.c, b, _, _, true, rfl, hb, .own IG, X.k, _, rfl, iteT (k H2 sb)⟩, fun e => by
    obtain ⟨rfl, ⟨ga, gs, rfl, G⟩, kk⟩ : t = .non ∧ (∃ ga gs, v = .ref ga ∧ GdV H ga pl.cs.length gs) ∧ ∀ H', Same H H' → Q (.str "right") H' := by
      rcases k with ⟨e', _⟩ | ⟨_, k⟩
      · rw [e] at e'
        cases e'
      · exact k
    exact ⟨rfl, fun H1 s1 => by
      refine ⟨fun σ' H' => False, ?_, fun _ _ q => q.elim⟩
      exact ⟨_, rfl, rfl, _, rfl, iteT ⟨_, rfl, rfl, _, rfl, iteT (kk H1 s1)⟩⟩⟩⟩
end
end Af

set_option Elab.async false
set_option linter.all false
set_option maxRecDepth 100000
set_option maxHeartbeats 4000000
namespace Af
open PySem L2
/-! two lists of the same flat things -/
theorem items_eq {A : Around} {s : Shared} : ∀ {xs : List V} {us ws : List Value}, (∀ v ∈ xs, flatB v = true) → Vals xs us → Vals xs ws → ∀ j (h1 : j < us.length) (h2 : j < ws.length), SeqAt.EqAt A s us[j] ws[j] true
  | [], _, _, _, r1, _, j, h1, _ => by
    cases r1
    exact absurd h1 (Nat.not_lt_zero j)
  | x :: xs, _, _, f, r1, r2, j, h1, h2 => by
    cases r1 with
    | cons a1 b1 =>
      cases r2 with
      | cons a2 b2 =>
        cases j with
        | zero => exact eqAt_same a1 a2 (f x List.mem_cons_self)
        | succ j => exact items_eq (fun v m => f v (List.mem_cons_of_mem _ m)) b1 b2 j (Nat.lt_of_succ_lt_succ h1) (Nat.lt_of_succ_lt_succ h2)
theorem all_yes (n : Nat) : ((List.range n).all fun _ => true) = true := List.all_eq_true.mpr fun _ _ => rfl
def rEqFl (r : Bool) : R2 := fun x y H Q => ∃ a b xs, x = .ref a ∧ y = .ref b ∧ H a = some (.lst xs) ∧ H b = some (.lst xs) ∧ (∀ v ∈ xs, flatB v = true) ∧ Q (.bl r) H
section
variable {X : Cx}
theorem op_eqFl (hu : X.A.units + 64 < cLine) : OpR X (compareOp .Eq) (rEqFl true) := by
  intro pins s σ H x y v u Q I rx ry h
  obtain ⟨a, b, xs, rfl, rfl, ha, hb, f, q⟩ := h
  cases (show v = Value.ref a from rx)
  cases (show u = Value.ref b from ry)
  obtain ⟨us, r1, p1, _⟩ := I.list (SqL.of ha)
  obtain ⟨ws, r2, p2, _⟩ := I.list (SqL.of hb)
  have hsz : us.toArray.size = ws.toArray.size := by
    rw [List.size_toArray, List.size_toArray, ← r1.length, ← r2.length]
  refine SeqAt.RcAt.lists (e := fun _ => true) p1.isList p2.isList hsz (A := X.A) (by omega) (fun j h1 h2 => ?_) _ _ _ _ ?_
  · have k := items_eq (A := X.A.in1) (s := s) f r1 r2 j (by simpa using h1) (by simpa using h2)
    simpa using k
  · rw [all_yes]
    exact ⟨.bl true, H, I, rfl, q⟩
theorem op_neFl (hu : X.A.units + 64 < cLine) : OpR X (compareOp .NotEq) (rEqFl false) := by
  intro pins s σ H x y v u Q I rx ry h
  obtain ⟨a, b, xs, rfl, rfl, ha, hb, f, q⟩ := h
  cases (show v = Value.ref a from rx)
  cases (show u = Value.ref b from ry)
  obtain ⟨us, r1, p1, _⟩ := I.list (SqL.of ha)
  obtain ⟨ws, r2, p2, _⟩ := I.list (SqL.of hb)
  have hsz : us.toArray.size = ws.toArray.size := by
    rw [List.size_toArray, List.size_toArray, ← r1.length, ← r2.length]
  refine SeqAt.RcNeAt.lists (e := fun _ => true) p1.isList p2.isList hsz (A := X.A) (by omega) (fun j h1 h2 => ?_) _ _ _ _ ?_
  · have k := items_eq (A := X.A.in1) (s := s) f r1 r2 j (by simpa using h1) (by simpa using h2)
    simpa using k
  · rw [all_yes]
    exact ⟨.bl false, H, I, rfl, q⟩
end
end Af

set_option Elab.async false
set_option linter.all false
set_option maxRecDepth 100000
set_option maxHeartbeats 1000000
namespace Af
open PySem PySem.Spec PyProof.Rows L2
/-! t[::-1], t a tuple -/
theorem pick_rev (l : List Value) : ((List.range l.length).filterMap fun (k : Nat) => l.toArray[(((l.length : Int) - 1) + (k : Int) * (-1)).toNat]?) = l.reverse := by
  have e : ((List.range l.length).filterMap fun (k : Nat) => l.toArray[(((l.length : Int) - 1) + (k : Int) * (-1)).toNat]?) = (List.range l.length).map fun k => l.getD (l.length - 1 - k) .none := by
    have : ∀ m, m ≤ l.length → ((List.range m).filterMap fun (k : Nat) => l.toArray[(((l.length : Int) - 1) + (k : Int) * (-1)).toNat]?) = (List.range m).map fun k => l.getD (l.length - 1 - k) .none := fun m => by
      induction m with
      | zero => intro _; rfl
      | succ m ih =>
        intro h
        rw [List.range_succ, List.filterMap_append, List.map_append, ih (by omega)]
        congr 1
        have i1 : (((l.length : Int) - 1) + (m : Int) * (-1)).toNat = l.length - 1 - m := by omega
        have i2 : l.length - 1 - m < l.length := by omega
        rw [List.filterMap_cons, i1]
        simp only [List.getElem?_toArray, List.getElem?_eq_getElem i2, List.filterMap_nil, List.map_cons, List.map_nil, List.getD_eq_getElem?_getD, Option.getD_some]
    exact this _ (Nat.le_refl _)
  rw [e]
  refine List.ext_getElem (by rw [List.length_map, List.length_range, List.length_reverse]) fun i h1 h2 => ?_
  rw [List.length_map, List.length_range] at h1
  rw [List.getElem_map, List.getElem_range, List.getElem_reverse, List.getD_eq_getElem?_getD, List.getElem?_eq_getElem (show l.length - 1 - i < l.length by omega)]
  rfl
section
variable {prog : Program} {w : World} {A : Around} {E : Value → Shared → Prop} {s : Shared}
theorem sliceApplied_rev {sl : Addr} {n : Nat} {vl vu vs : Value} {Q : Int × Int × Nat → Shared → Prop} (h1 : 1 ≤ n) (hs : s.heap.IsSliceOf sl vl vu vs) (pl : IsPart vl none) (pu : IsPart vu none) (ps : IsPart vs (some (-1)))
    (h : Q ((n : Int) - 1, -1, n) s) : wpAny (model prog w) A (Builtin.Slice.sliceApplied (.ref sl) (pure (n : Int))) Q E s := by
  obtain ⟨os, hos, hcs, hds⟩ := id hs
  unfold Builtin.Slice.sliceApplied Builtin.Slice.sliceFields
  refine wpAny_bind (wpAny_bind (wpAny_field hos hds (x := vl) rfl (wpAny_bind (wpAny_field hos hds (x := vu) rfl (wpAny_bind (wpAny_field hos hds (x := vs) rfl (wpAny_pure ?_)))))))
  refine wpAny_bind (HT.slicePart_ ps ?_)
  show wpAny _ _ (if ((-1 : Int) == 0) = true then _ else _) _ _ s
  rw [if_neg (by decide)]
  refine wpAny_bind (HT.slicePart_ pl (wpAny_bind (HT.slicePart_ pu (wpAny_bind (wpAny_pure ?_)))))
  show wpAny _ _ (match Builtin.Slice.sliceAdjust none none (-1) (n : Int) with | (lo, hi) => pure (lo, (-1 : Int), Builtin.Slice.slicePlaces lo hi (-1))) _ _ s
  rw [show Builtin.Slice.sliceAdjust none none (-1) (n : Int) = ((n : Int) - 1, -1) from rfl]
  show wpAny _ _ (pure (((n : Int) - 1), (-1 : Int), Builtin.Slice.slicePlaces ((n : Int) - 1) (-1) (-1))) _ _ s
  rw [show Builtin.Slice.slicePlaces ((n : Int) - 1) (-1) (-1) = n by
    unfold Builtin.Slice.slicePlaces
    rw [if_neg (by decide), if_pos (by omega)]
    show ((((n : Int) - 1 - -1 - 1) / 1) + 1).toNat = n
    rw [Int.ediv_one]
    omega]
  exact wpAny_pure h
theorem getItem_rev {t sl : Addr} {l : List Value} {vl vu vs : Value} {Q : Value → Shared → Prop} (l1 : 1 ≤ l.length) (lz : l.length ≤ sizeLine) (ht : IsTup s.heap t l.toArray) (hs : s.heap.IsSliceOf sl vl vu vs) (pl : IsPart vl none) (pu : IsPart vu none) (ps : IsPart vs (some (-1)))
    (h : Q (.ref s.heap.objs.size) { s with heap := s.heap.push { cls := .type "tuple", data := .seq l.reverse.toArray } }) : wpAny (model prog w) A (getItem (.ref t) (.ref sl)) Q E s := by
  have htake : sizeOk (.seq l.reverse.toArray) := by
    show l.reverse.toArray.size ≤ sizeLine
    rw [List.size_toArray, List.length_reverse]
    exact lz
  obtain ⟨os, hos, hcs, hds⟩ := id hs
  have hTs : s.TypeIs (.ref sl) "slice" := ⟨os, hos, hcs⟩
  unfold getItem
  try with_reducible refine wpAny_holding ?_
  first | refine wpAny_bind (wpAny_pure ?_) | skip
  refine wpAny_bind (wpAny_sequenceKey ht.typeIs (by decide) ?_)
  refine wpAny_bind (wpAny_callSpecial?_slot (name := Str.ofString "__getitem__") ht.typeIs PyProof.Rows.slot_tuple_getitem
    (wpAny_call_entry PyProof.Rows.slot_tuple_getitem ht.typeIs entry_tuple_getitem ?_ (args_tuple_getitem _ _)))
  show wpAny _ _ (Builtin.Tuple.tupleItemsOf (.ref t) >>= _) _ _ s
  refine wpAny_bind (tupleItemsOf_ ht ?_)
  refine wpAny_bind (wpAny_typeOf hTs ?_)
  rw [if_pos (by decide)]
  refine wpAny_bind (sliceApplied_rev (n := l.length) l1 hs pl pu ps ?_)
  show wpAny _ _ (if (((l.length : Int) - 1) == 0 && (-1 : Int) == 1 && l.length == l.toArray.size) = true then _ else _) _ _ s
  rw [if_neg (by simp)]
  dsimp only
  rw [pick_rev l]
  first
    | exact wpAny_bind (m := Builtin.Tuple.tupleExact _) (wpAny_newObj_type (wpAny_pure ⟨_, rfl, wpAny_pure h⟩) htake)
    | exact wpAny_bind (m := Builtin.Tuple.tupleExact _) (wpAny_newObj_type (wpAny_bind (wpAny_pure (wpAny_pure ⟨_, rfl, wpAny_pure h⟩))) htake)
    | exact wpAny_bind (wpAny_bind (m := Builtin.Tuple.tupleExact _) (wpAny_newObj_type (wpAny_pure (wpAny_pure ⟨_, rfl, wpAny_pure h⟩)) htake))
    | exact wpAny_bind (wpAny_bind (m := Builtin.Tuple.tupleExact _) (wpAny_newObj_type (wpAny_pure ⟨_, rfl, wpAny_pure h⟩) htake))
end
section
variable {X : Cx}
def tRevT (te : TE) : TE := fun σ H Q => te σ H fun x H1 => ∃ a xs, x = .ref a ∧ H1 a = some (.tup xs) ∧ 1 ≤ xs.length ∧ New (.tup xs.reverse) H1 Q
theorem pe_revT {e : Expr} {te : TE} {k : Nat} {p1 p2 p3 pos : Pos} (he : PE X e te) : PE X (.Subscript e (.Slice none none (some (.UnaryOp .USub (.Constant (.int 1) k p1) p2)) p3) pos) (tRevT te) := by
  refine ⟨fun pins s σ H Q I h => ?_⟩
  refine Subscript_ (thn (he.run pins s σ H _ I h) fun v s1 ⟨x, H1, I1, r1, q1⟩ => ?_)
  obtain ⟨a, xs, ex, hx0, xl, q⟩ := q1
  have hx : SqT X.K H1 a xs := SqT.of hx0
  subst ex
  cases r1
  have hst : PO X (some (.UnaryOp .USub (.Constant (.int 1) k p1) p2)) (tPart (tUn (rU fun i => .int (-i)) (tC (.int 1)))) := po_some (pe_un un_neg pe_int)
  refine wpAny_Slice (thn (po_none.run pins s1 σ H1 (fun o H2 => o = none ∧ H2 = H1) I1 ⟨rfl, rfl⟩) fun vl s2 ⟨l, H2, I2, pl, el, e2⟩ => ?_)
  subst el e2
  refine thn (po_none.run pins s2 σ H2 (fun o H3 => o = none ∧ H3 = H2) I2 ⟨rfl, rfl⟩) fun vu s3 ⟨u, H3, I3, pu, eu, e3⟩ => ?_
  subst eu e3
  refine thn (hst.run pins s3 σ H3 (fun o H4 => o = some (-1) ∧ H4 = H3) I3 ⟨1, rfl, -1, rfl, rfl, rfl⟩) fun vs s4 ⟨o, H4, I4, ps, eo, e4⟩ => ?_
  subst eo e4
  have I5 : Inv X pins σ H4 { s4 with heap := s4.heap.push { cls := .type "slice", data := .fields #[vl, vu, vs] } } := I4.kept (t' := s4.toks) fun b ob q => Heap.get?_push_of_some _ q
  obtain ⟨its, r, ht, hz⟩ := I5.tuple hx
  have hlen := r.length
  show wpAny (model X.prog X.w) X.A (subscriptTail e (.Slice none none (some (.UnaryOp .USub (.Constant (.int 1) k p1) p2)) p3) (.ref a) (.ref s4.heap.objs.size)) (EP X pins σ Q) X.xe { s4 with heap := s4.heap.push { cls := .type "slice", data := .fields #[vl, vu, vs] } }
  refine tail_any (ops := [.ref a, .ref s4.heap.objs.size]) ht.typeIs (PyProof.Rows.slot_tuple_getitem.lookup) ?_ (by with_unfolding_all rfl)
  refine getItem_rev (l := its) (by omega) (by omega) ht (Heap.IsSliceOf.new _ vl vu vs) pl pu ps ?_
  refine ⟨.ref _, _, I5.laid (t' := s4.toks) (o := .tup xs.reverse) (fun b ob q => Heap.get?_push_of_some _ q) (Nat.le_refl _) ?_, rfl, q.mk _ (I5.hok.fresh (Nat.le_refl _))⟩
  exact ⟨by rw [List.length_reverse]; exact hz, its.reverse, r.reverse, IsTup.new _ _⟩
end
end Af

set_option Elab.async false
set_option linter.all false
set_option maxRecDepth 100000
set_option maxHeartbeats 4000000
namespace Af
open PySem PySem.Spec PyProof.Rows L2
/-! what expressions make, told as data: nothing that stood is changed, what is made is told without the list at p -/
/-- a heap without the list at p and what S names -/
def gh (S : List Addr) (p : Addr) (H : Hp) : Hp := fun a => if a ∈ S then none else hd p H a
theorem gh_at {S : List Addr} {p a : Addr} {H : Hp} {o : HO} (n : a ≠ p) (m : a ∉ S) (h : H a = some o) : gh S p H a = some o := by
  unfold gh
  rw [if_neg m, hd_ne n]
  exact h
theorem gh_hd {S : List Addr} {p : Addr} {H : Hp} : Same (gh S p H) (hd p H) := fun a o e => by
  unfold gh at e
  by_cases m : a ∈ S
  · rw [if_pos m] at e
    cases e
  · rw [if_neg m] at e
    exact e
theorem gh_in {S : List Addr} {p : Addr} {H : Hp} : Same (gh S p H) H := fun a o e => hd_in a o (gh_hd a o e)
theorem gh_same {S : List Addr} {p : Addr} {H H' : Hp} (s : Same H H') : Same (gh S p H) (gh S p H') := fun a o e => by
  unfold gh at e ⊢
  by_cases m : a ∈ S
  · rw [if_pos m] at e
    cases e
  · rw [if_neg m] at e ⊢
    exact hd_same s a o e
/-- named, and not what stood at first -/
def Hid (S : List Addr) (H0 H : Hp) : Prop := ∀ a ∈ S, H0 a = none ∧ ∃ o, H a = some o ∧ ∀ xs, o ≠ .tup xs
theorem Hid.same {S : List Addr} {H0 H H' : Hp} (h : Hid S H0 H) (s : Same H H') : Hid S H0 H' := fun a m => by
  obtain ⟨h1, r, h2, h3⟩ := h a m
  exact ⟨h1, r, s _ _ h2, h3⟩
theorem Hid.new {S : List Addr} {H0 H : Hp} {a : Addr} (h : Hid S H0 H) (n : H a = none) : a ∉ S := fun m => by
  obtain ⟨_, r, h2, _⟩ := h a m
  rw [n] at h2
  cases h2
theorem gh_atT {S : List Addr} {p a : Addr} {H0 H : Hp} {xs : List V} (P : ∃ l, H p = some (.lst l)) (I : Hid S H0 H) (h : H a = some (.tup xs)) : gh S p H a = some (.tup xs) := by
  refine gh_at (fun e => ?_) (fun m => ?_) h
  · obtain ⟨l, hl⟩ := P
    rw [e, hl] at h
    cases h
  · obtain ⟨_, r, h2, h3⟩ := I a m
    rw [h] at h2
    exact h3 _ (Option.some.inj h2).symm
theorem gh_hd2 {l p : Addr} {H : Hp} : gh [l] p H = hd2 p l H := by
  funext a
  unfold gh hd2
  by_cases h : a = l <;> by_cases h2 : a = p <;> simp [hd, h, h2]
/-- a list that is appended to is hidden too -/
theorem hid_lst {l : Addr} {H : Hp} {xs : List V} (h : H l = some (.lst xs)) : Hid [l] (hd l H) H := fun a m => by
  rw [List.mem_singleton.mp m]
  exact ⟨if_pos rfl, _, h, fun _ e => by cases e⟩
def Ev (K : PySem.W.Frag) (p : Addr) (H0 : Hp) (σ : L2.St) (te : TE) (d : PyData) : Prop := ∀ (S : List Addr) (H : Hp) (Q : VK), Hid S H0 H → Same H0 H → (∀ v H', Same H H' → Dx K (gh S p H') v d → Q v H') → te σ H Q
def Evs (K : PySem.W.Frag) (p : Addr) (H0 : Hp) (σ : L2.St) (t : TA) (ds : List PyData) : Prop := ∀ (S : List Addr) (H : Hp) (Q : List V → Hp → Prop), Hid S H0 H → Same H0 H → (∀ vs H', Same H H' → DxAll K (gh S p H') vs ds → Q vs H') → t σ H Q
def IsL (p : Addr) (H0 : Hp) : Prop := ∃ l, H0 p = some (.lst l)
theorem IsL.same {p : Addr} {H H' : Hp} (h : IsL p H) (s : Same H H') : IsL p H' := by
  obtain ⟨l, h⟩ := h
  exact ⟨l, s _ _ h⟩
theorem IsL.ne {p a : Addr} {H : Hp} (h : IsL p H) (n : H a = none) : a ≠ p := fun e => by
  obtain ⟨l, h⟩ := h
  rw [e, h] at n
  cases n
theorem IsL.nt {p a : Addr} {H : Hp} {xs : List V} (h : IsL p H) (n : H a = some (.tup xs)) : a ≠ p := fun e => by
  obtain ⟨l, h⟩ := h
  rw [e, h] at n
  cases n
def cutD (ds : List PyData) (lo hi : Option Int) : List PyData := (ds.drop (HT.sIx ds.length 0 lo)).take (HT.sIx ds.length ds.length hi - HT.sIx ds.length 0 lo)
/-- a bound of a slice -/
def Evo (H0 : Hp) (σ : L2.St) (t : TO) (o : Option Int) : Prop := ∀ (S : List Addr) (H : Hp) (Q : Option Int → Hp → Prop), Hid S H0 H → Same H0 H → (∀ H', Same H H' → Q o H') → t σ H Q
section
variable {K : PySem.W.Frag} {p : Addr} {H0 : Hp} {σ : L2.St}
theorem DxAll.take {H : Hp} : ∀ {xs : List V} {ds : List PyData} (n : Nat), DxAll K H xs ds → DxAll K H (xs.take n) (ds.take n)
  | _, _, 0, _ => by rw [List.take_zero, List.take_zero]; exact .nil
  | _, _, n + 1, .nil => .nil
  | _, _, n + 1, .cons r t => .cons r (t.take n)
theorem DxAll.drop {H : Hp} : ∀ {xs : List V} {ds : List PyData} (n : Nat), DxAll K H xs ds → DxAll K H (xs.drop n) (ds.drop n)
  | _, _, 0, h => h
  | _, _, n + 1, .nil => .nil
  | _, _, n + 1, .cons r t => t.drop n
theorem DxAll.rev {H : Hp} : ∀ {xs : List V} {ds : List PyData}, DxAll K H xs ds → DxAll K H xs.reverse ds.reverse
  | _, _, .nil => .nil
  | _, _, .cons r t => by rw [List.reverse_cons, List.reverse_cons]; exact t.rev.app (.cons r .nil)
theorem DxAll.cut {H : Hp} {xs : List V} {ds : List PyData} (h : DxAll K H xs ds) (lo hi : Option Int) : DxAll K H (cutV xs lo hi) (cutD ds lo hi) := by
  unfold cutV cutD
  rw [h.len]
  exact (h.drop _).take _
theorem Ev.run {te : TE} {d : PyData} {H : Hp} {Q : VK} (e : Ev K p H0 σ te d) (s : Same H0 H) (k : ∀ v H', Same H H' → Dx K (hd p H') v d → Q v H') : te σ H Q := e [] H Q (fun a m => by cases m) s fun v H' s' q => k v H' s' (Dx.same gh_hd q)
theorem Ev.go {S : List Addr} {te : TE} {d : PyData} {H : Hp} {Q : VK} (e : Ev K p H0 σ te d) (i : Hid S H0 H) (s : Same H0 H) (k : ∀ v H', Same H H' → Dx K (gh S p H') v d → Q v H') : te σ H Q := e S H Q i s k
theorem Evs.run {t : TA} {ds : List PyData} {H : Hp} {Q : List V → Hp → Prop} (e : Evs K p H0 σ t ds) (s : Same H0 H) (k : ∀ vs H', Same H H' → DxAll K (hd p H') vs ds → Q vs H') : t σ H Q := e [] H Q (fun a m => by cases m) s fun v H' s' q => k v H' s' (DxAll.same gh_hd q)
theorem Evs.go {S : List Addr} {t : TA} {ds : List PyData} {H : Hp} {Q : List V → Hp → Prop} (e : Evs K p H0 σ t ds) (i : Hid S H0 H) (s : Same H0 H) (k : ∀ vs H', Same H H' → DxAll K (gh S p H') vs ds → Q vs H') : t σ H Q := e S H Q i s k
theorem ev_var {i : Nat} {v : V} {d : PyData} (hi : σ[i]? = some (some v)) (h : Dx K (hd p H0) v d) : Ev K p H0 σ (tVar i) d := fun S H Q I s k => ⟨v, hi, k v H (Same.refl _) (Dx.same (fun a o e => by
  have e0 := hd_in _ _ e
  have np : a ≠ p := fun z => by rw [z, show hd p H0 p = none from if_pos rfl] at e; cases e
  exact gh_at np (fun m => by rw [(I a m).1] at e0; cases e0) (s _ _ e0)) h)⟩
theorem ev_int {z : Int} : Ev K p H0 σ (tC (.int z)) (.int z) := fun S H Q I s k => k _ H (Same.refl _) (.int z)
theorem ev_str {z : Str} : Ev K p H0 σ (tC (.str z)) (.str z) := fun S H Q I s k => k _ H (Same.refl _) (.str z)
theorem ev_bl {z : Bool} : Ev K p H0 σ (tC (.bl z)) (.bool z) := fun S H Q I s k => k _ H (Same.refl _) (.bl z)
theorem ev_non : Ev K p H0 σ (tC .non) .none := fun S H Q I s k => k _ H (Same.refl _) .non
theorem evs_nil : Evs K p H0 σ tNil [] := fun S H Q I s k => k _ H (Same.refl _) .nil
theorem evs_cons {te : TE} {t : TA} {d : PyData} {ds : List PyData} (h : Ev K p H0 σ te d) (hs : Evs K p H0 σ t ds) : Evs K p H0 σ (tCons te t) (d :: ds) := fun S H Q I s k =>
  h.go I s fun v H1 s1 q1 => hs.go (I.same s1) (s.trans s1) fun vs H2 s2 q2 => k _ H2 (s1.trans s2) (.cons (Dx.same (gh_same s2) q1) q2)
theorem ev_tup {t : TA} {ds : List PyData} (P : IsL p H0) (h : Evs K p H0 σ t ds) (l : ds.length ≤ 100000) : Ev K p H0 σ (tTup' t) (.tuple ds) := fun S H Q I s k =>
  h.go I s fun vs H1 s1 q1 => ⟨sz (by rw [q1.len]; exact l), fun a H2 n s2 h2 => k _ H2 (s1.trans s2) (.tup (gh_at ((P.same (s.trans s1)).ne n) (((I.same s1)).new n) h2) (DxAll.same (gh_same s2) q1))⟩
theorem ev_lst {t : TA} {ds : List PyData} (P : IsL p H0) (h : Evs K p H0 σ t ds) (l : ds.length ≤ 100000) : Ev K p H0 σ (tLst' t) (.list ds) := fun S H Q I s k =>
  h.go I s fun vs H1 s1 q1 => ⟨sz (by rw [q1.len]; exact l), fun a H2 n s2 h2 => k _ H2 (s1.trans s2) (.lst (gh_at ((P.same (s.trans s1)).ne n) (((I.same s1)).new n) h2) (DxAll.same (gh_same s2) q1))⟩
theorem dx_lst {S : List Addr} {G : Hp} {v : V} {ds : List PyData} (h : Dx K (gh S p G) v (.list ds)) : ∃ a xs, v = .ref a ∧ G a = some (.lst xs) ∧ DxAll K (gh S p G) xs ds ∧ gh S p G a = some (.lst xs) := by
  cases h with
  | lst e t => exact ⟨_, _, rfl, gh_in _ _ e, t, e⟩
theorem dx_tupG {S : List Addr} {G : Hp} {v : V} {ds : List PyData} (h : Dx K (gh S p G) v (.tuple ds)) : ∃ a xs, v = .ref a ∧ G a = some (.tup xs) ∧ DxAll K (gh S p G) xs ds ∧ gh S p G a = some (.tup xs) := by
  cases h with
  | tup e t => exact ⟨_, _, rfl, gh_in _ _ e, t, e⟩
theorem ev_cat {ta tb : TE} {xs ys : List PyData} (P : IsL p H0) (ha : Ev K p H0 σ ta (.list xs)) (hb : Ev K p H0 σ tb (.list ys)) (l : xs.length + ys.length ≤ 100000) : Ev K p H0 σ (tOp rCat' ta tb) (.list (xs ++ ys)) := fun S H Q I s k =>
  ha.go I s fun v H1 s1 q1 => hb.go (I.same s1) (s.trans s1) fun u H2 s2 q2 => by
    obtain ⟨a, vs, rfl, h1, t1, g1⟩ := dx_lst q1
    obtain ⟨b, us, rfl, h2, t2, g2⟩ := dx_lst q2
    refine ⟨a, b, vs, us, rfl, rfl, s2 _ _ h1, h2, sz (by rw [t1.len, t2.len]; exact l), fun c H3 n s3 h3 => ?_⟩
    exact k _ H3 (s1.trans (s2.trans s3)) (.lst (gh_at ((P.same (s.trans (s1.trans s2))).ne n) (((I.same (s1.trans s2))).new n) h3) ((DxAll.same (gh_same (s2.trans s3)) t1).app (DxAll.same (gh_same s3) t2)))
theorem ev_catT {ta tb : TE} {xs ys : List PyData} (P : IsL p H0) (ha : Ev K p H0 σ ta (.tuple xs)) (hb : Ev K p H0 σ tb (.tuple ys)) (l : xs.length + ys.length ≤ 100000) : Ev K p H0 σ (tOp rCatT' ta tb) (.tuple (xs ++ ys)) := fun S H Q I s k =>
  ha.go I s fun v H1 s1 q1 => hb.go (I.same s1) (s.trans s1) fun u H2 s2 q2 => by
    obtain ⟨a, vs, rfl, h1, t1, g1⟩ := dx_tupG q1
    obtain ⟨b, us, rfl, h2, t2, g2⟩ := dx_tupG q2
    refine ⟨a, b, vs, us, rfl, rfl, s2 _ _ h1, h2, sz (by rw [t1.len, t2.len]; exact l), fun c H3 s3 h3 => ?_⟩
    exact k _ H3 (s1.trans (s2.trans s3)) (.tup (gh_atT (P.same (s.trans (s1.trans (s2.trans s3)))) (I.same (s1.trans (s2.trans s3))) h3) ((DxAll.same (gh_same (s2.trans s3)) t1).app (DxAll.same (gh_same s3) t2)))
theorem ev_rep {ta tb : TE} {xs : List PyData} {n : Int} (P : IsL p H0) (ha : Ev K p H0 σ ta (.list xs)) (hb : Ev K p H0 σ tb (.int n)) (n0 : 0 ≤ n) (n1 : n ≤ 1000) (l : xs.length * n.toNat ≤ 100000) : Ev K p H0 σ (tOp rRep' ta tb) (.list (List.replicate n.toNat xs).flatten) := fun S H Q I s k =>
  ha.go I s fun v H1 s1 q1 => hb.go (I.same s1) (s.trans s1) fun u H2 s2 q2 => by
    obtain ⟨a, vs, rfl, h1, t1, g1⟩ := dx_lst q1
    cases q2
    refine ⟨a, n, vs, rfl, rfl, s2 _ _ h1, n0, n1, sz (by rw [t1.len]; exact l), fun c H3 m s3 h3 => ?_⟩
    refine k _ H3 (s1.trans (s2.trans s3)) (.lst (gh_at ((P.same (s.trans (s1.trans s2))).ne m) (((I.same (s1.trans s2))).new m) h3) ?_)
    have t := DxAll.same (gh_same (s2.trans s3)) t1
    clear h3
    generalize n.toNat = m
    induction m with
    | zero => exact .nil
    | succ m ih => exact t.app ih
theorem ev_repT {ta tb : TE} {xs : List PyData} {n : Int} (P : IsL p H0) (ha : Ev K p H0 σ ta (.tuple xs)) (hb : Ev K p H0 σ tb (.int n)) (ne : xs ≠ []) (n0 : 0 ≤ n) (n1 : n ≤ 1000) (l : xs.length ≤ 1000) : Ev K p H0 σ (tOp rRepT' ta tb) (.tuple (List.replicate n.toNat xs).flatten) := fun S H Q I s k =>
  ha.go I s fun v H1 s1 q1 => hb.go (I.same s1) (s.trans s1) fun u H2 s2 q2 => by
    obtain ⟨a, vs, rfl, h1, t1, g1⟩ := dx_tupG q1
    cases q2
    have vn : vs ≠ [] := fun z => by
      have := t1.len
      rw [z] at this
      exact ne (List.eq_nil_of_length_eq_zero this.symm)
    refine ⟨a, n, vs, rfl, rfl, s2 _ _ h1, vn, n0, n1, by rw [t1.len]; exact l, fun c H3 s3 h3 => ?_⟩
    refine k _ H3 (s1.trans (s2.trans s3)) (.tup (gh_atT (P.same (s.trans (s1.trans (s2.trans s3)))) (I.same (s1.trans (s2.trans s3))) h3) ?_)
    have t := DxAll.same (gh_same (s2.trans s3)) t1
    clear h3
    generalize n.toNat = m
    induction m with
    | zero => exact .nil
    | succ m ih => exact t.app ih
theorem evo_none : Evo H0 σ tNoPart none := fun S H Q I s k => k H (Same.refl _)
theorem evo_some {te : TE} {i : Int} (h : Ev K p H0 σ te (.int i)) : Evo H0 σ (tPart te) (some i) := fun S H Q I s k =>
  h.go I s fun v H1 s1 q1 => by
    cases q1
    exact ⟨i, rfl, k H1 s1⟩
theorem ev_slL {te : TE} {tl th : TO} {xs : List PyData} {lo hi : Option Int} (P : IsL p H0) (h : Ev K p H0 σ te (.list xs)) (hl : Evo H0 σ tl lo) (hh : Evo H0 σ th hi) : Ev K p H0 σ (tSl rSlL' te tl th) (.list (cutD xs lo hi)) := fun S H Q I s k =>
  h.go I s fun v H1 s1 q1 => hl S H1 _ (I.same s1) (s.trans s1) fun H2 s2 => hh S H2 _ (I.same (s1.trans s2)) (s.trans (s1.trans s2)) fun H3 s3 => by
    obtain ⟨a, vs, rfl, h1, t1, g1⟩ := dx_lst q1
    refine ⟨a, vs, rfl, s3 _ _ (s2 _ _ h1), fun c H4 n s4 h4 => ?_⟩
    exact k _ H4 (s1.trans (s2.trans (s3.trans s4))) (.lst (gh_at ((P.same (s.trans (s1.trans (s2.trans s3)))).ne n) (((I.same (s1.trans (s2.trans s3)))).new n) h4) (DxAll.same (gh_same (s2.trans (s3.trans s4))) (t1.cut lo hi)))
theorem ev_slT {te : TE} {tl th : TO} {xs : List PyData} {lo hi : Option Int} (P : IsL p H0) (h : Ev K p H0 σ te (.tuple xs)) (hl : Evo H0 σ tl lo) (hh : Evo H0 σ th hi) : Ev K p H0 σ (tSl rSlT' te tl th) (.tuple (cutD xs lo hi)) := fun S H Q I s k =>
  h.go I s fun v H1 s1 q1 => hl S H1 _ (I.same s1) (s.trans s1) fun H2 s2 => hh S H2 _ (I.same (s1.trans s2)) (s.trans (s1.trans s2)) fun H3 s3 => by
    obtain ⟨a, vs, rfl, h1, t1, g1⟩ := dx_tupG q1
    refine ⟨a, vs, rfl, s3 _ _ (s2 _ _ h1), fun c H4 s4 h4 => ?_⟩
    exact k _ H4 (s1.trans (s2.trans (s3.trans s4))) (.tup (gh_atT (P.same (s.trans (s1.trans (s2.trans (s3.trans s4))))) (I.same (s1.trans (s2.trans (s3.trans s4)))) h4) (DxAll.same (gh_same (s2.trans (s3.trans s4))) (t1.cut lo hi)))
theorem ev_rev {te : TE} {xs : List PyData} (P : IsL p H0) (h : Ev K p H0 σ te (.list xs)) : Ev K p H0 σ (tRev' te) (.list xs.reverse) := fun S H Q I s k =>
  h.go I s fun v H1 s1 q1 => by
    obtain ⟨a, vs, rfl, h1, t1, g1⟩ := dx_lst q1
    exact ⟨a, vs, rfl, h1, fun c H2 n s2 h2 => k _ H2 (s1.trans s2) (.lst (gh_at ((P.same (s.trans s1)).ne n) (((I.same s1)).new n) h2) (DxAll.same (gh_same s2) t1.rev))⟩
theorem ev_revT {te : TE} {xs : List PyData} (P : IsL p H0) (h : Ev K p H0 σ te (.tuple xs)) (l : 1 ≤ xs.length) : Ev K p H0 σ (tRevT te) (.tuple xs.reverse) := fun S H Q I s k =>
  h.go I s fun v H1 s1 q1 => by
    obtain ⟨a, vs, rfl, h1, t1, g1⟩ := dx_tupG q1
    exact ⟨a, vs, rfl, h1, by rw [t1.len]; exact l, fun c H2 n s2 h2 => k _ H2 (s1.trans s2) (.tup (gh_at ((P.same (s.trans s1)).ne n) (((I.same s1)).new n) h2) (DxAll.same (gh_same s2) t1.rev))⟩
theorem ev_tupL {te : TE} {xs : List PyData} (P : IsL p H0) (h : Ev K p H0 σ te (.list xs)) : Ev K p H0 σ (tCB rTuple' (tCons te tNil)) (.tuple xs) := fun S H Q I s k =>
  h.go I s fun v H1 s1 q1 => by
    obtain ⟨a, vs, rfl, h1, t1, g1⟩ := dx_lst q1
    exact ⟨a, vs, rfl, .inl h1, fun c H2 s2 h2 => k _ H2 (s1.trans s2) (.tup (gh_atT (P.same (s.trans (s1.trans s2))) (I.same (s1.trans s2)) h2) (DxAll.same (gh_same s2) t1))⟩
theorem ev_tupT {te : TE} {xs : List PyData} (P : IsL p H0) (h : Ev K p H0 σ te (.tuple xs)) : Ev K p H0 σ (tCB rTuple' (tCons te tNil)) (.tuple xs) := fun S H Q I s k =>
  h.go I s fun v H1 s1 q1 => by
    obtain ⟨a, vs, rfl, h1, t1, g1⟩ := dx_tupG q1
    exact ⟨a, vs, rfl, .inr h1, fun c H2 s2 h2 => k _ H2 (s1.trans s2) (.tup (gh_atT (P.same (s.trans (s1.trans s2))) (I.same (s1.trans s2)) h2) (DxAll.same (gh_same s2) t1))⟩
theorem ev_lstL {te : TE} {xs : List PyData} (P : IsL p H0) (h : Ev K p H0 σ te (.list xs)) : Ev K p H0 σ (tCB rList' (tCons te tNil)) (.list xs) := fun S H Q I s k =>
  h.go I s fun v H1 s1 q1 => by
    obtain ⟨a, vs, rfl, h1, t1, g1⟩ := dx_lst q1
    exact ⟨a, vs, rfl, .inl h1, fun c H2 n s2 h2 => k _ H2 (s1.trans s2) (.lst (gh_at ((P.same (s.trans s1)).ne n) (((I.same s1)).new n) h2) (DxAll.same (gh_same s2) t1))⟩
theorem ev_lstT {te : TE} {xs : List PyData} (P : IsL p H0) (h : Ev K p H0 σ te (.tuple xs)) : Ev K p H0 σ (tCB rList' (tCons te tNil)) (.list xs) := fun S H Q I s k =>
  h.go I s fun v H1 s1 q1 => by
    obtain ⟨a, vs, rfl, h1, t1, g1⟩ := dx_tupG q1
    exact ⟨a, vs, rfl, .inr h1, fun c H2 n s2 h2 => k _ H2 (s1.trans s2) (.lst (gh_at ((P.same (s.trans s1)).ne n) (((I.same s1)).new n) h2) (DxAll.same (gh_same s2) t1))⟩
theorem ev_neg {i : Int} {te : TE} (h : Ev K p H0 σ te (.int i)) : Ev K p H0 σ (tUn (rU fun i => .int (-i)) te) (.int (-i)) := fun S H Q I s k =>
  h.go I s fun v H1 s1 q1 => by
    cases q1
    exact ⟨i, rfl, k _ H1 s1 (.int _)⟩
theorem ev_I0 {f : Int → Int → V} {g : Int → Int → PyData} {i j : Int} {ta tb : TE} (hf : ∀ H, Dx K H (f i j) (g i j)) (ha : Ev K p H0 σ ta (.int i)) (hb : Ev K p H0 σ tb (.int j)) : Ev K p H0 σ (tOp (rI0 f) ta tb) (g i j) := fun S H Q I s k =>
  ha.go I s fun v H1 s1 q1 => hb.go (I.same s1) (s.trans s1) fun u H2 s2 q2 => by
    cases q1
    cases q2
    exact ⟨i, j, rfl, rfl, k _ H2 (s1.trans s2) (hf _)⟩
theorem ev_add {i j : Int} {ta tb : TE} (ha : Ev K p H0 σ ta (.int i)) (hb : Ev K p H0 σ tb (.int j)) : Ev K p H0 σ (tOp (rI0 fun i j => .int (i + j)) ta tb) (.int (i + j)) := ev_I0 (g := fun i j => .int (i + j)) (fun _ => .int _) ha hb
theorem ev_sub {i j : Int} {ta tb : TE} (ha : Ev K p H0 σ ta (.int i)) (hb : Ev K p H0 σ tb (.int j)) : Ev K p H0 σ (tOp (rI0 fun i j => .int (i - j)) ta tb) (.int (i - j)) := ev_I0 (g := fun i j => .int (i - j)) (fun _ => .int _) ha hb
theorem ev_mul {i j : Int} {ta tb : TE} (ha : Ev K p H0 σ ta (.int i)) (hb : Ev K p H0 σ tb (.int j)) (c : CMul i j) : Ev K p H0 σ (tOp (rI CMul fun i j => .int (i * j)) ta tb) (.int (i * j)) := fun S H Q I s k =>
  ha.go I s fun v H1 s1 q1 => hb.go (I.same s1) (s.trans s1) fun u H2 s2 q2 => by
    cases q1
    cases q2
    exact ⟨i, j, rfl, rfl, c, k _ H2 (s1.trans s2) (.int _)⟩
theorem ev_pow {i j : Int} {ta tb : TE} (ha : Ev K p H0 σ ta (.int i)) (hb : Ev K p H0 σ tb (.int j)) (c : CPow i j) : Ev K p H0 σ (tOp (rI CPow fun i j => .int (i ^ j.toNat)) ta tb) (.int (i ^ j.toNat)) := fun S H Q I s k =>
  ha.go I s fun v H1 s1 q1 => hb.go (I.same s1) (s.trans s1) fun u H2 s2 q2 => by
    cases q1
    cases q2
    exact ⟨i, j, rfl, rfl, c, k _ H2 (s1.trans s2) (.int _)⟩
theorem ev_eqI {i j : Int} {ta tb : TE} (ha : Ev K p H0 σ ta (.int i)) (hb : Ev K p H0 σ tb (.int j)) : Ev K p H0 σ (tOp rEq ta tb) (.bool (decide (V.int i = V.int j))) := fun S H Q I s k =>
  ha.go I s fun v H1 s1 q1 => hb.go (I.same s1) (s.trans s1) fun u H2 s2 q2 => by
    cases q1
    cases q2
    exact ⟨rfl, k _ H2 (s1.trans s2) (.bl _)⟩
theorem ev_strI {i : Int} {te : TE} (h : Ev K p H0 σ te (.int i)) (c : i.natAbs.log2 < 1920) : Ev K p H0 σ (tCB (fun xs H Q => ∃ i : Int, xs = [.int i] ∧ i.natAbs.log2 < 1920 ∧ Q (.str (toString i)) H) (tCons te tNil)) (.str (toString i)) := fun S H Q I s k =>
  h.go I s fun v H1 s1 q1 => by
    cases q1
    exact ⟨i, rfl, c, k _ H1 s1 (.str _)⟩
theorem ev_lenT {te : TE} {xs : List PyData} (h : Ev K p H0 σ te (.tuple xs)) : Ev K p H0 σ (tCB rLen' (tCons te tNil)) (.int (xs.length : Nat)) := fun S H Q I s k =>
  h.go I s fun v H1 s1 q1 => by
    obtain ⟨a, vs, rfl, h1, t1, g1⟩ := dx_tupG q1
    refine ⟨a, vs, rfl, .inr h1, ?_⟩
    rw [t1.len]
    exact k _ H1 s1 (.int _)
theorem ev_len {te : TE} {xs : List PyData} (h : Ev K p H0 σ te (.list xs)) : Ev K p H0 σ (tCB rLen' (tCons te tNil)) (.int (xs.length : Nat)) := fun S H Q I s k =>
  h.go I s fun v H1 s1 q1 => by
    obtain ⟨a, vs, rfl, h1, t1, g1⟩ := dx_lst q1
    refine ⟨a, vs, rfl, .inl h1, ?_⟩
    rw [t1.len]
    exact k _ H1 s1 (.int _)
theorem ev_dnew (P : IsL p H0) : Ev K p H0 σ tDNewK (.dict []) := fun S H Q I s k a n => k _ _ (same_new n) (.dic (gh_at ((P.same s).ne n) (I.new n) upd_same) .nil)
/-- a dict of one number or text -/
theorem ev_disp1 {tk tv : TE} {k0 : L2.Key} {d : PyData} (P : IsL p H0) (hk : Ev K p H0 σ tk (keyD k0)) (hv : Ev K p H0 σ tv d) : Ev K p H0 σ (tDisp [(tk, tv)]) (.dict [(keyD k0, d)]) := fun S H Q I s k a n => by
  have s0 := same_new (o := .dK []) n
  have na := (P.same s).ne n
  have n0 : H0 a = none := s.free n
  have I1 : Hid (a :: S) H0 (upd H a (.dK [])) := fun b m => by
    rcases List.mem_cons.mp m with rfl | m
    · exact ⟨n0, _, upd_same, fun _ e => by cases e⟩
    · exact (I.same s0) b m
  refine hk.go I1 (s.trans s0) fun x H1 s1 q1 => hv.go (I1.same s1) (s.trans (s0.trans s1)) fun y H2 s2 q2 => ?_
  have ha : H2 a = some (.dK []) := s2 _ _ (s1 _ _ upd_same)
  have ex : x = kV k0 := by
    cases k0 with
    | inl i => cases q1; rfl
    | inr z => cases q1; rfl
  subst ex
  refine ⟨ha, [(k0, y)], rfl, by simp, ?_⟩
  have s3 : Same H (upd H2 a (.dK (mergeK [] [(k0, y)]))) := fun b o e => by
    rw [upd_ne (fun z => by rw [z, n] at e; cases e)]
    exact s2 _ _ (s1 _ _ (s0 _ _ e))
  refine k _ _ s3 (.dic (gh_at na (I.new n) upd_same) ?_)
  refine .cons (k := k0) (Dx.same (fun b o e => ?_) q2) .nil
  have eb := gh_in _ _ e
  have nb : b ≠ a := fun z => by
    unfold gh at e
    rw [z, if_pos List.mem_cons_self] at e
    cases e
  have mb : b ∉ S := fun m => by
    unfold gh at e
    rw [if_pos (List.mem_cons_of_mem _ m)] at e
    cases e
  have pb : b ≠ p := fun z => by
    have e2 := gh_hd _ _ e
    rw [z, show hd p H2 p = none from if_pos rfl] at e2
    cases e2
  exact gh_at pb mb (by rw [upd_ne nb]; exact eb)
end
end Af

set_option Elab.async false
set_option linter.all false
set_option maxRecDepth 100000
set_option maxHeartbeats 16000000
namespace Af
open PySem L2
abbrev s_l_bad_guards : Stmt := top 80
abbrev N_l_bad_guards : List Str := ["_law_pen_here", "_law_guards_here", "_law_many", "_law_found", "_law_odd", "_law_one", "_law_spot"]
theorem sc_l_bad_guards : FnScope N_l_bad_guards ["_law_pen_here", "_law_guards_here", "_law_many"] (defScope s_l_bad_guards) := ⟨rfl, rfl, rfl, by decide +kernel, rfl, by decide +kernel, by decide +kernel⟩

theorem al_nil {S : PyData → Prop} : ∀ y ∈ ([] : List PyData), S y := fun y hy => by cases hy
theorem al_cons {S : PyData → Prop} {x : PyData} {xs : List PyData} (h : S x) (t : ∀ y ∈ xs, S y) : ∀ y ∈ x :: xs, S y := fun y hy => by
  rcases List.mem_cons.mp hy with rfl | hy
  · exact h
  · exact t y hy
theorem al_app {S : PyData → Prop} {xs ys : List PyData} (h : ∀ y ∈ xs, S y) (t : ∀ y ∈ ys, S y) : ∀ y ∈ xs ++ ys, S y := fun y hy => by
  rcases List.mem_append.mp hy with hy | hy
  · exact h y hy
  · exact t y hy
theorem al_cut {S : PyData → Prop} {xs : List PyData} {lo hi : Option Int} (h : ∀ y ∈ xs, S y) : ∀ y ∈ cutD xs lo hi, S y := fun y hy => h y (List.mem_of_mem_drop (List.mem_of_mem_take hy))
theorem cut_len (xs : List PyData) (lo hi : Option Int) : (cutD xs lo hi).length ≤ xs.length := by
  unfold cutD
  rw [List.length_take, List.length_drop]
  omega
/-- small things: within others, and themselves -/
def AtB (d : PyData) : Prop := Bd 2000 5 d
structure NrB (d : PyData) : Prop where
  w : WdD d
  b : Bd 60000 8 d
theorem wd_flat {d : PyData} (f : flatD d = true) : WdD d := fun ds e => by
  rcases e with rfl | rfl <;> cases f
theorem wd_tup {ds : List PyData} (l : ds.length ≤ 1000) : WdD (.tuple ds) := fun es e => by
  rcases e with e | e <;> cases e
  exact l
theorem wd_lst {ds : List PyData} (l : ds.length ≤ 1000) : WdD (.list ds) := fun es e => by
  rcases e with e | e <;> cases e
  exact l
theorem at_fl {d : PyData} (f : flatD d = true) : AtB d := (Bd.flat f).mono (by decide) (by decide)
theorem fl_bl {b : Bool} : flatD (.bool b) = true := by cases b <;> decide
theorem nb_flat {d : PyData} (f : flatD d = true) : NrB d := ⟨wd_flat f, (Bd.flat f).mono (by decide) (by decide)⟩
theorem nb_tup {ds : List PyData} (h : ∀ d ∈ ds, AtB d) (l : ds.length ≤ 25) : NrB (.tuple ds) := ⟨wd_tup (by omega), (Bd.tup (b := 2000) (n := 5) (k := 25) h l).mono (by decide) (by decide)⟩
theorem nb_lst {ds : List PyData} (h : ∀ d ∈ ds, AtB d) (l : ds.length ≤ 25) : NrB (.list ds) := ⟨wd_lst (by omega), (Bd.lst (b := 2000) (n := 5) (k := 25) h l).mono (by decide) (by decide)⟩
theorem at_tup {ds : List PyData} (h : ∀ d ∈ ds, flatD d = true) (l : ds.length ≤ 25) : AtB (.tuple ds) := (Bd.tup (b := 45) (n := 1) (k := 25) (fun d hd => Bd.flat (h d hd)) l).mono (by decide) (by decide)
theorem at_lst {ds : List PyData} (h : ∀ d ∈ ds, flatD d = true) (l : ds.length ≤ 25) : AtB (.list ds) := (Bd.lst (b := 45) (n := 1) (k := 25) (fun d hd => Bd.flat (h d hd)) l).mono (by decide) (by decide)
theorem bd_dic0 : Bd 45 1 (.dict []) := Bd.flat rfl
theorem nb_dic0 : NrB (.dict []) := ⟨fun ds e => (by rcases e with e | e <;> cases e), bd_dic0.mono (by decide) (by decide)⟩
/-- no pattern for n cells -/
structure BdX (n : Nat) (d : PyData) : Prop where
  q : patB n d = false
  s : SzP d
  b : Bd 60000 8 d
theorem bx_no {n : Nat} {d : PyData} (h : NrB d) (nd : ∀ kvs, d ≠ .dict kvs) : BdX n d := ⟨by
  cases d with
  | dict kvs => exact absurd rfl (nd kvs)
  | _ => rfl, fun kvs e => absurd e (nd kvs), h.b⟩
theorem bx_dic {n : Nat} {k v : PyData} (f : flatD k = true) (h : NrB v) (hb : Bd 2500 6 v) (q : (idxD n k && letD v) = false) : BdX n (.dict [(k, v)]) := ⟨by
  show ((idxD n k && letD v) && true) = false
  rw [q]
  rfl, fun kvs e => by
    cases e
    exact ⟨(show 1 ≤ 1000 by decide), by simp, fun p hp => by rw [List.mem_singleton.mp hp]; exact h.w⟩, (Bd.dic (b := 2500) (n := 6) (k := 1) (kvs := [(k, v)]) (fun p hp => by rw [List.mem_singleton.mp hp]; exact ⟨f, hb⟩) (Nat.le_refl 1)).mono (by decide) (by decide)⟩
section
variable {K : PySem.W.Frag} {p : Addr} {H0 : Hp} {σ : L2.St}
theorem ev_dI {tk tv : TE} {z : Int} {d : PyData} (P : IsL p H0) (hk : Ev K p H0 σ tk (.int z)) (hv : Ev K p H0 σ tv d) : Ev K p H0 σ (tDisp [(tk, tv)]) (.dict [(.int z, d)]) := ev_disp1 (k0 := .inl z) P hk hv
theorem ev_dS {tk tv : TE} {z : Str} {d : PyData} (P : IsL p H0) (hk : Ev K p H0 σ tk (.str z)) (hv : Ev K p H0 σ tv d) : Ev K p H0 σ (tDisp [(tk, tv)]) (.dict [(.str z, d)]) := ev_disp1 (k0 := .inr z) P hk hv
theorem Ev.asg {te : TE} {d : PyData} {H : Hp} {g : TG} {D : Ends} (e : Ev K p H0 σ te d) (s : Same H0 H) (k : ∀ v H', Same H H' → Dx K (hd p H') v d → g v σ H' D.nx) : tAsg te g D σ H := e.run s k
theorem Ev.asgS {te : TE} {d : PyData} {H : Hp} {g : TG} {u : TS} {D : Ends} (e : Ev K p H0 σ te d) (s : Same H0 H) (k : ∀ v H', Same H H' → Dx K (hd p H') v d → g v σ H' (u D)) : tSeq (tAsg te g) u D σ H := e.run s k
theorem gName_go {i : Nat} {v : V} {H : Hp} {Q : L2.St → Hp → Prop} (h : Q (σ.set i (some v)) H) : gName i v σ H Q := h
theorem dx_lstH {H : Hp} {v : V} {ds : List PyData} (h : Dx K (hd p H) v (.list ds)) : ∃ a xs, v = .ref a ∧ H a = some (.lst xs) ∧ DxAll K (hd p H) xs ds ∧ a ≠ p := by
  cases h with
  | @lst a xs _ e t =>
    have ne : a ≠ p := fun z => by
      rw [z, show hd p H p = none from if_pos rfl] at e
      cases e
    exact ⟨a, xs, rfl, (hd_ne ne).symm.trans e, t, ne⟩
theorem DxAll.at' {H : Hp} : ∀ {xs : List V} {ds : List PyData}, DxAll K H xs ds → ∀ {i : Nat} {y : V}, xs[i]? = some y → ∃ d ∈ ds, Dx K H y d
  | _, _, .nil, i, y, h => by simp at h
  | _, _, .cons r t, 0, y, h => by cases h; exact ⟨_, List.mem_cons_self, r⟩
  | _, _, .cons r t, i + 1, y, h => by
    obtain ⟨d, m, q⟩ := t.at' (i := i) h
    exact ⟨d, List.mem_cons_of_mem _ m, q⟩
end
theorem dx_guards {K : PySem.W.Frag} {H : Hp} {ga : Addr} {n : Nat} {gs : List Ptn} (G : GdV H ga n gs) : Dx K H (.ref ga) (.list (gs.map patD)) := by
  obtain ⟨xs, h1, h2⟩ := G.ex
  refine .lst h1 ?_
  clear h1 G
  induction h2 with
  | nil => exact .nil
  | cons r _ ih =>
    obtain ⟨a, rfl, pv⟩ := r
    exact .cons (dx_pat pv) ih
theorem bd_guards {n : Nat} {gs : List Ptn} (h : ∀ g ∈ gs, OkPt n g ∧ g.length ≤ 24) (hn : n ≤ 24) (l : gs.length ≤ 3) : Bd 94000 5 (.list (gs.map patD)) :=
  (Bd.lst (b := 31000) (n := 4) (k := 3) (fun d hd => by
    obtain ⟨g, hg, rfl⟩ := List.mem_map.mp hd
    exact bd_pat (h g hg).1 hn (h g hg).2) (by rw [List.length_map]; exact l)).mono (by decide) (by decide)

/-- kept outside the pen's list and the list that grows -/
theorem Ev.asgC {K : PySem.W.Frag} {p c : Addr} {H : Hp} {σ : L2.St} {te : TE} {d : PyData} {zs : List V} {g : TG} {D : Ends} (e : Ev K p (hd c H) σ te d) (hc : H c = some (.lst zs)) (k : ∀ v H', Same H H' → Dx K (hd2 p c H') v d → g v σ H' D.nx) : tAsg te g D σ H :=
  e.go (hid_lst hc) hd_in fun v H' s q => k v H' s (by rw [gh_hd2] at q; exact q)
theorem Ev.asgSC {K : PySem.W.Frag} {p c : Addr} {H : Hp} {σ : L2.St} {te : TE} {d : PyData} {zs : List V} {g : TG} {u : TS} {D : Ends} (e : Ev K p (hd c H) σ te d) (hc : H c = some (.lst zs)) (k : ∀ v H', Same H H' → Dx K (hd2 p c H') v d → g v σ H' (u D)) : tSeq (tAsg te g) u D σ H :=
  e.go (hid_lst hc) hd_in fun v H' s q => k v H' s (by rw [gh_hd2] at q; exact q)
theorem Ev.forC {K : PySem.W.Frag} {p c : Addr} {H : Hp} {σ : L2.St} {te : TE} {ds : List PyData} {zs : List V} {g : TG} {tb : TS} {D : Ends} (e : Ev K p (hd c H) σ te (.list ds)) (hc : H c = some (.lst zs))
    (k : ∀ l2 xs H', Same H H' → H' l2 = some (.lst xs) → DxAll K (hd2 p c H') xs ds → l2 ≠ c → l2 ≠ p → ∃ W : Nat → Nat → L2.St → Hp → Prop, (∃ m, W 0 m σ H') ∧ ∀ i m σ H, W i m σ H →
      ((Itl K l2).stop i H ∧ D.nx σ H) ∨ ((Itl K l2).go i H ∧ ∃ N : L2.St → Hp → Prop, (∀ σ' H', N σ' H' → ∃ m', m' < m ∧ W (i + 1) m' σ' H') ∧ ∀ x H', (Itl K l2).yld i H x H' → g x σ H' fun σ2 H2 => tb { D with nx := N, ct := N, bk := D.nx } σ2 H2)) :
    tFor (iList K te) g tb D σ H :=
  e.go (hid_lst hc) hd_in fun v H1 s1 q1 => by
    rw [gh_hd2] at q1
    cases q1 with
    | @lst a xs _ h t =>
      have h1 := hd2_in _ _ h
      refine ⟨a, rfl, ⟨_, SqL.of h1⟩, k a xs H1 s1 h1 t (fun z => ?_) (fun z => ?_)⟩
      · rw [z] at h
        unfold hd2 hd at h
        rw [if_pos rfl] at h
        cases h
      · rw [z] at h
        unfold hd2 hd at h
        split at h
        · cases h
        · rw [if_pos rfl] at h
          cases h
theorem hd_swap {p c : Addr} {H : Hp} : Same (hd2 p c H) (hd p (hd c H)) := fun a o e => by
  unfold hd2 hd at *
  by_cases h1 : a = c <;> by_cases h2 : a = p <;> simp_all
theorem hd_fresh {p c : Addr} {H H' : Hp} (n : H c = none) (k : Kp p H H') : Same (hd p H) (hd p (hd c H')) := fun a o e => by
  have ap : a ≠ p := fun z => by
    rw [z] at e
    unfold hd at e
    rw [if_pos rfl] at e
    cases e
  have e1 := hd_in _ _ e
  have ac : a ≠ c := ne_of_none e1 n
  rw [hd_ne ap, hd_ne ac]
  exact k a o (.inl ap) e1
theorem hd2_hd {p l : Addr} {H : Hp} : Same (hd2 p l H) (hd p H) := by
  rw [← gh_hd2]
  exact gh_hd
def badG (gs : List Ptn) : List PyData := [.none, .tuple [], .str "", .int 0, .bool true, .dict [], .tuple (gs.map patD), .dict [(.int 0, .tuple [.int 0])], .list (List.replicate 100 [PyData.dict []]).flatten, .list (gs.map patD ++ [.none])]
def odd1 (n : Nat) : List PyData := [.int 0, .str "", .tuple [], .list [], .bool true, .dict [(.int (n : Nat), .tuple [.int 0])], .dict [(.int (-1), .tuple [.int 0])], .dict [(.int 0, .tuple [])], .dict [(.int 0, .list [.int 0])], .dict [(.int 0, .tuple [.int 1, .int 0])], .dict [(.int 0, .tuple [.int 0, .int 0])], .dict [(.int 0, .tuple [.int 8])]]
def odd2 : List PyData := [.dict [(.int 0, .int 0)], .dict [(.int 0, .tuple [.bool true])], .dict [(.str "0", .tuple [.int 0])], .dict [(.int 0, .none)], .dict [(.int 0, .tuple [.list [.int 0]])], .dict [(.int 0, .tuple [.int 0, .list [.int 1]])]]
theorem odd1_ok {n : Nat} (n24 : n ≤ 24) : ∀ d ∈ odd1 n, BdX n d := by
  have nk : flatD (.int ((n : Nat) : Int)) = true := by
    have : ∀ m : Fin 25, flatD (.int ((m.val : Nat) : Int)) = true := by decide +kernel
    exact this ⟨n, by omega⟩
  have fi : ∀ z : Int, flatD (.int z) = true → ∀ d ∈ [PyData.int z], flatD d = true := fun z h d hd => by rw [List.mem_singleton.mp hd]; exact h
  unfold odd1
  refine al_cons (bx_no (nb_flat (by decide +kernel)) fun _ e => by cases e) (al_cons (bx_no (nb_flat (by decide +kernel)) fun _ e => by cases e) (al_cons (bx_no (nb_tup al_nil (by decide)) fun _ e => by cases e) (al_cons (bx_no (nb_lst al_nil (by decide)) fun _ e => by cases e) (al_cons (bx_no (nb_flat rfl) fun _ e => by cases e) ?_))))
  have dic : ∀ {k : PyData} {ds : List PyData}, flatD k = true → (∀ d ∈ ds, flatD d = true) → ds.length ≤ 25 → (idxD n k && letD (.tuple ds)) = false → BdX n (.dict [(k, .tuple ds)]) := fun f h l q => bx_dic f (nb_tup (fun d hd => at_fl (h d hd)) l) ((at_tup h l).mono (by decide) (by decide)) q
  refine al_cons (dic nk (fi 0 (by decide +kernel)) (by decide) ?_) (al_cons (dic (by decide +kernel) (fi 0 (by decide +kernel)) (by decide) rfl) (al_cons (dic (by decide +kernel) al_nil (by decide) ?_) (al_cons (bx_dic (by decide +kernel) (nb_lst (fun d hd => at_fl (fi 0 (by decide +kernel) d hd)) (by decide)) ((at_lst (fi 0 (by decide +kernel)) (by decide)).mono (by decide) (by decide)) ?_) (al_cons (dic (by decide +kernel) (fun d hd => ?_) (by decide) ?_) (al_cons (dic (by decide +kernel) (fun d hd => ?_) (by decide) ?_) (al_cons (dic (by decide +kernel) (fi 8 (by decide +kernel)) (by decide) ?_) al_nil))))))
  · have : idxD (n : Int) (.int ((n : Nat) : Int)) = false := by
      show (decide ((0 : Int) ≤ (n : Int)) && decide ((n : Int) < (n : Int))) = false
      rw [decide_eq_false (show ¬ ((n : Int) < (n : Int)) by omega), Bool.and_false]
    rw [this]
    rfl
  · exact Bool.and_false _
  · exact Bool.and_false _
  · simp only [List.mem_cons, List.not_mem_nil, or_false] at hd
    rcases hd with rfl | rfl <;> decide +kernel
  · exact Bool.and_false _
  · simp only [List.mem_cons, List.not_mem_nil, or_false] at hd
    rcases hd with rfl | rfl <;> decide +kernel
  · exact Bool.and_false _
  · exact Bool.and_false _
theorem odd2_ok {n : Nat} (n24 : n ≤ 24) : ∀ d ∈ odd2, BdX n d := by
  have f0 : flatD (.int 0) = true := by decide +kernel
  have g0 : ∀ d ∈ [PyData.int 0], flatD d = true := fun d hd => by rw [List.mem_singleton.mp hd]; exact f0
  have la : AtB (.list [.int 0]) := at_lst g0 (by decide)
  have g1 : ∀ d ∈ [PyData.int 1], flatD d = true := fun d hd => by rw [List.mem_singleton.mp hd]; decide +kernel
  have la1 : AtB (.list [.int 1]) := at_lst g1 (by decide)
  have lb1 : Bd 300 2 (.list [.int 1]) := (Bd.lst (b := 45) (n := 1) (k := 1) (fun d hd => Bd.flat (g1 d hd)) (Nat.le_refl 1)).mono (by decide) (by decide)
  have lb : Bd 300 2 (.list [.int 0]) := (Bd.lst (b := 45) (n := 1) (k := 1) (fun d hd => Bd.flat (g0 d hd)) (Nat.le_refl 1)).mono (by decide) (by decide)
  unfold odd2
  refine al_cons (bx_dic f0 (nb_flat f0) ((Bd.flat f0).mono (by decide) (by decide)) (Bool.and_false _)) (al_cons (bx_dic f0 (nb_tup (fun d hd => ?_) (by decide)) ?_ (Bool.and_false _)) (al_cons (bx_dic (by decide +kernel) (nb_tup (fun d hd => at_fl (g0 d hd)) (by decide)) ((at_tup g0 (by decide)).mono (by decide) (by decide)) rfl) (al_cons (bx_dic f0 (nb_flat rfl) ((Bd.flat rfl).mono (by decide) (by decide)) (Bool.and_false _)) (al_cons (bx_dic f0 (nb_tup (fun d hd => by rw [List.mem_singleton.mp hd]; exact la) (by decide)) ?_ (Bool.and_false _)) (al_cons (bx_dic f0 (nb_tup (fun d hd => ?_) (by decide)) ?_ (Bool.and_false _)) al_nil)))))
  · rw [List.mem_singleton.mp hd]
    exact at_fl rfl
  · exact (at_tup (fun d hd => by rw [List.mem_singleton.mp hd]; rfl) (by decide)).mono (by decide) (by decide)
  · exact (Bd.tup (b := 300) (n := 2) (k := 1) (ds := [.list [.int 0]]) (fun d hd => by rw [List.mem_singleton.mp hd]; exact lb) (Nat.le_refl 1)).mono (by decide) (by decide)
  · simp only [List.mem_cons, List.not_mem_nil, or_false] at hd
    rcases hd with rfl | rfl
    · exact at_fl f0
    · exact la1
  · exact (Bd.tup (b := 300) (n := 2) (k := 2) (ds := [.int 0, .list [.int 1]]) (fun d hd => by
      simp only [List.mem_cons, List.not_mem_nil, or_false] at hd
      rcases hd with rfl | rfl
      · exact (Bd.flat f0).mono (by decide) (by decide)
      · exact lb1) (Nat.le_refl 2)).mono (by decide) (by decide)
/-- no guards for n cells -/
structure BdG (n : Nat) (d : PyData) : Prop where
  q : guardsB n d = false
  s : SzGd d
  b : Bd 500000 12 d
theorem bg_no {n : Nat} {d : PyData} (h : Bd 500000 12 d) (nd : ∀ ds, d ≠ .list ds) : BdG n d := ⟨by
  cases d with
  | list ds => exact absurd rfl (nd ds)
  | _ => rfl, fun ds e => absurd e (nd ds), h⟩
theorem bg_lst {n : Nat} {ds : List PyData} (q : guardsB n (.list ds) = false) (l : ds.length ≤ 7) (h : ∀ d ∈ ds, SzP d ∧ Bd 60000 8 d) : BdG n (.list ds) := ⟨q, fun es e => by
  cases e
  exact ⟨by omega, fun d hd => (h d hd).1⟩, (Bd.lst (b := 60000) (n := 8) (k := 7) (fun d hd => (h d hd).2) l).mono (by decide) (by decide)⟩
theorem szp_flat {d : PyData} (f : flatD d = true) : SzP d := fun kvs e => by
  subst e
  cases kvs with
  | nil => exact ⟨by decide, List.nodup_nil, fun p hp => by cases hp⟩
  | cons _ _ => cases f
theorem few_guards {n : Nat} {gs : List Ptn} (ok : ∀ g ∈ gs, OkPt n g ∧ g.length ≤ 24) (n24 : n ≤ 24) : ∀ d ∈ gs.map patD, SzP d ∧ Bd 60000 8 d := fun d hd => by
  obtain ⟨g, hg, rfl⟩ := List.mem_map.mp hd
  obtain ⟨o, l⟩ := ok g hg
  exact ⟨pat_sz o (by omega), (bd_pat o n24 l).mono (by decide) (by decide)⟩
theorem bg_put {n : Nat} {gs : List Ptn} {o : PyData} (ok : ∀ g ∈ gs, OkPt n g ∧ g.length ≤ 24) (n24 : n ≤ 24) (l : gs.length ≤ 3) (h : BdX n o) (lo hi : Option Int) : BdG n (.list (cutD (gs.map patD) none lo ++ [o] ++ cutD (gs.map patD) hi none)) := by
  have l1 := cut_len (gs.map patD) none lo
  have l2 := cut_len (gs.map patD) hi none
  rw [List.length_map] at l1 l2
  have few := few_guards ok n24
  refine bg_lst ?_ ?_ (al_app (al_app (al_cut few) (al_cons ⟨h.s, h.b⟩ al_nil)) (al_cut few))
  · show (decide _ && List.all _ (patB n)) = false
    rw [List.all_append, List.all_append, show List.all [o] (patB n) = false by show (patB n o && true) = false; rw [h.q]; rfl, Bool.and_false, Bool.false_and, Bool.and_false]
  · simp only [List.length_append, List.length_cons, List.length_nil]
    omega
theorem badG_ok {n : Nat} {gs : List Ptn} (ok : ∀ g ∈ gs, OkPt n g ∧ g.length ≤ 24) (n24 : n ≤ 24) (l : gs.length ≤ 3) : ∀ d ∈ badG gs, BdG n d := by
  have few := few_guards ok n24
  have b0 : Bd 45 1 (.dict []) := bd_dic0
  have fl : ∀ {d : PyData}, flatD d = true → BdG n d := fun f => bg_no ((Bd.flat f).mono (by decide) (by decide)) fun ds e => by subst e; cases f
  unfold badG
  refine al_cons (fl rfl) (al_cons (bg_no ((at_tup al_nil (by decide)).mono (by decide) (by decide)) fun _ e => by cases e) (al_cons (fl (by decide +kernel)) (al_cons (fl (by decide +kernel)) (al_cons (fl rfl) (al_cons (bg_no (b0.mono (by decide) (by decide)) fun _ e => by cases e) (al_cons (bg_no ?_ fun _ e => by cases e) (al_cons (bg_no ?_ fun _ e => by cases e) (al_cons ?_ (al_cons ?_ al_nil)))))))))
  · exact (Bd.tup (b := 60000) (n := 8) (k := 3) (fun d hd => (few d hd).2) (by rw [List.length_map]; exact l)).mono (by decide) (by decide)
  · have t0 : Bd 300 2 (.tuple [.int 0]) := (Bd.tup (b := 45) (n := 1) (k := 1) (ds := [.int 0]) (fun d hd => by rw [List.mem_singleton.mp hd]; exact Bd.flat (by decide +kernel)) (Nat.le_refl 1)).mono (by decide) (by decide)
    exact (Bd.dic (b := 300) (n := 2) (k := 1) (kvs := [(.int 0, .tuple [.int 0])]) (fun p hp => by rw [List.mem_singleton.mp hp]; exact ⟨by decide +kernel, t0⟩) (Nat.le_refl 1)).mono (by decide) (by decide)
  · have hl : (List.replicate 100 [PyData.dict []]).flatten.length = 100 := by decide +kernel
    have hm : ∀ d ∈ (List.replicate 100 [PyData.dict []]).flatten, d = PyData.dict [] := fun d hd => by
      obtain ⟨l, h1, h2⟩ := List.mem_flatten.mp hd
      rw [(List.mem_replicate.mp h1).2] at h2
      exact List.mem_singleton.mp h2
    refine ⟨?_, fun ds e => ?_, ?_⟩
    · show (decide ((List.replicate 100 [PyData.dict []]).flatten.length ≤ 99) && (List.replicate 100 [PyData.dict []]).flatten.all (patB (n : Nat))) = false
      rw [hl]
      rfl
    · cases e
      exact ⟨by rw [hl]; decide, fun d hd => by rw [hm d hd]; exact szp_flat rfl⟩
    · exact (Bd.lst (b := 45) (n := 1) (k := 100) (fun d hd => by rw [hm d hd]; exact b0) (by rw [hl]; exact Nat.le_refl _)).mono (by decide) (by decide)
  · refine bg_lst ?_ ?_ (al_app few (al_cons ⟨szp_flat rfl, (Bd.flat rfl).mono (by decide) (by decide)⟩ al_nil))
    · show (decide _ && List.all _ (patB n)) = false
      rw [List.all_append, show List.all [PyData.none] (patB n) = false from rfl, Bool.and_false, Bool.and_false]
    · simp only [List.length_append, List.length_cons, List.length_nil, List.length_map]
      omega
def sp_badg (K : PySem.W.Frag) : Sp := fun vs H Q _ => ∃ (q : Pn) (m : Nat) (ga : Addr) (n : Nat) (gs : List Ptn), vs = [.ref q.p, .ref ga, .int (n : Nat)] ∧ Pen q m H ∧ m + 100 < 1000000000000 ∧ GdV H ga n gs ∧ n ≤ 24 ∧ gs.length ≤ 3 ∧ ga ≠ q.p ∧
  ∀ c xs ds H', Go q (m + 18) H H' → H c = none → H' c = some (.lst xs) → DxAll K (hd q.p H') xs ds → (∀ d ∈ ds, BdG n d) → ds.length ≤ 28 → Q (.ref c) H'
section
variable {P : Program} {w : World} {K : PySem.W.Frag} {mg : Str → Option Value} {base : Heap}
theorem ok_badg {f : Addr} {fd : FuncData} (F : Fun K "_law_bad_guards" "_law_bad_guards" s_l_bad_guards f fd) (T : Txt mg) (c_l_draw : Cal P w K mg base 2 "_law_draw" ["_law_pen_here", "_law_under"] sp_draw) :
    FnOk P w K mg base CX0 3 f fd ["_law_pen_here", "_law_guards_here", "_law_many"] (sp_badg K) := by
  refine F.ok sc_l_bad_guards (fun vs H Q E h => ?_) (fun cdv A outer s H vs Q E hr h => ?_)
  · obtain ⟨_, _, _, _, _, rfl, _⟩ := h
    rfl
  obtain ⟨q, m, ga, n, gs, rfl, pn, hm, G, n24, l3, ng, k⟩ := h
  refine ⟨_, (pss_cons (ps_set (i := 3) sc_l_bad_guards.nd rfl (Or.inl rfl) (pe_lst' (pa_cons pe_non (pa_cons (pe_tup' pa_nil) (pa_cons pe_str (pa_cons pe_int (pa_cons pe_bl (pa_cons pe_dnewK (pa_cons (pe_callTy call_tuple' (by rfl) T.tuple (by decide +kernel) (pa_cons (pv 1) pa_nil)) (pa_cons (pe_disp (pps_cons pe_int (pe_tup' (pa_cons pe_int pa_nil)) pps_nil) rfl rfl (by simp) (by decide)) (pa_cons (pe_op op_rep' (pe_lst' (pa_cons pe_dnewK pa_nil)) pe_int) (pa_cons (pe_op op_cat' (pv 1) (pe_lst' (pa_cons pe_non pa_nil))) pa_nil))))))))))))
    (pss_cons (ps_set (i := 4) sc_l_bad_guards.nd rfl (Or.inl rfl) (pe_lst' (pa_cons pe_int (pa_cons pe_str (pa_cons (pe_tup' pa_nil) (pa_cons (pe_lst' pa_nil) (pa_cons pe_bl (pa_cons (pe_disp (pps_cons (pv 2) (pe_tup' (pa_cons pe_int pa_nil)) pps_nil) rfl rfl (by simp) (by decide)) (pa_cons (pe_disp (pps_cons (pe_un un_neg pe_int) (pe_tup' (pa_cons pe_int pa_nil)) pps_nil) rfl rfl (by simp) (by decide)) (pa_cons (pe_disp (pps_cons pe_int (pe_tup' pa_nil) pps_nil) rfl rfl (by simp) (by decide)) (pa_cons (pe_disp (pps_cons pe_int (pe_lst' (pa_cons pe_int pa_nil)) pps_nil) rfl rfl (by simp) (by decide)) (pa_cons (pe_disp (pps_cons pe_int (pe_tup' (pa_cons pe_int (pa_cons pe_int pa_nil))) pps_nil) rfl rfl (by simp) (by decide)) (pa_cons (pe_disp (pps_cons pe_int (pe_tup' (pa_cons pe_int (pa_cons pe_int pa_nil))) pps_nil) rfl rfl (by simp) (by decide)) (pa_cons (pe_disp (pps_cons pe_int (pe_tup' (pa_cons pe_int pa_nil)) pps_nil) rfl rfl (by simp) (by decide)) pa_nil))))))))))))))
    (pss_cons (ps_for PassesOwn.never rfl (pi_list (pe_op op_cat' (pv 4) (pe_lst' (pa_cons (pe_disp (pps_cons pe_int pe_int pps_nil) rfl rfl (by simp) (by decide)) (pa_cons (pe_disp (pps_cons pe_int (pe_tup' (pa_cons pe_bl pa_nil)) pps_nil) rfl rfl (by simp) (by decide)) (pa_cons (pe_disp (pps_cons pe_str (pe_tup' (pa_cons pe_int pa_nil)) pps_nil) rfl rfl (by simp) (by decide)) (pa_cons (pe_disp (pps_cons pe_int pe_non pps_nil) rfl rfl (by simp) (by decide)) (pa_cons (pe_disp (pps_cons pe_int (pe_tup' (pa_cons (pe_lst' (pa_cons pe_int pa_nil)) pa_nil)) pps_nil) rfl rfl (by simp) (by decide)) (pa_cons (pe_disp (pps_cons pe_int (pe_tup' (pa_cons pe_int (pa_cons (pe_lst' (pa_cons pe_int pa_nil)) pa_nil))) pps_nil) rfl rfl (by simp) (by decide)) pa_nil))))))))) (pg_name (i := 5) sc_l_bad_guards.nd rfl (Or.inl rfl))
      (pss_cons (ps_set (i := 6) sc_l_bad_guards.nd rfl (Or.inl rfl) (pe_cal c_l_draw hr (pa_cons (pv 0) (pa_cons (pe_op op_add (pe_callB call_len' (by rfl) T.len (by decide +kernel) (pa_cons (pv 1) pa_nil)) pe_int) pa_nil))))
    (pss_one (ps_expr (pe_bm PySem.F.plainAttrs_list PySem.F.slot_list_append PySem.F.type_list_append mt_append (pv 3) (pa_cons (pe_op op_cat' (pe_op op_cat' (pe_slice sl_list' (pv 1) po_none (po_some (pv 6))) (pe_lst' (pa_cons (pv 5) pa_nil))) (pe_slice sl_list' (pv 1) (po_some (pv 6)) po_none)) pa_nil))))))
    (pss_one (ps_ret (pv 3)))))), ?_⟩
  have P0 : IsL q.p H := pn.lst
  have dxg : Dx K (hd q.p H) (.ref ga) (.list (gs.map patD)) := dx_guards (G.kp (kp_hd P0.choose_spec) ng)
  have gl : (gs.map patD).length = gs.length := List.length_map ..
  show tAsg (tLst' _) (gName 3) _ _ _
  refine Evs.run (K := K) (p := q.p) (H0 := H) (ds := badG gs) ?e1 (Same.refl _) fun vs J1 s1 t1 => ⟨?sz, fun c J2 n2 s2 h2 => ?_⟩
  case e1 =>
    unfold badG
    repeat' first | exact evs_nil | apply evs_cons | exact ev_int | exact ev_non | exact ev_bl | exact ev_str | exact ev_dnew P0 | exact ev_rep (n := 100) P0 (ev_lst P0 (evs_cons (ev_dnew P0) evs_nil) (by decide)) ev_int (by decide) (by decide) (by decide) | exact ev_tupL P0 (ev_var rfl dxg) | exact ev_var rfl dxg | apply ev_dI P0 | apply ev_dS P0 | apply ev_tup P0 | apply ev_cat P0 | apply ev_lst P0 | apply ev_neg
    all_goals first | (show _ ≤ _; decide) | (simp only [List.length_cons, List.length_nil]; omega) | omega | trace_state
  case sz => exact sz (show vs.length ≤ 100000 by rw [t1.len]; show 10 ≤ _; decide)
  have lc : vs.length = 10 := t1.len
  have nc : H c = none := s1.free n2
  have g2 : Go q m H J2 := Go.of pn (s1.trans s2)
  have T2 : DxAll K (hd2 q.p c J2) vs (badG gs) := DxAll.same (same_hd2 n2 s2) t1
  have B2 := badG_ok G.ok n24 l3
  have cp : c ≠ q.p := (pn.free nc).1
  have P2 : IsL q.p (hd c J2) := by
    obtain ⟨z, hz⟩ := g2.pen.lst
    exact ⟨z, (hd_ne (Ne.symm cp)).trans hz⟩
  refine gName_go ?_
  dsimp only
  refine Ev.asgSC (K := K) (p := q.p) (c := c) (H := J2) (d := .list (odd1 n)) ?e2 h2 fun v3 J3 s3 x3 => ?_
  case e2 =>
    refine ev_lst P2 ?_ (show 12 ≤ 100000 by decide)
    unfold odd1
    repeat' first | exact evs_nil | apply evs_cons | exact ev_int | exact ev_non | exact ev_bl | exact ev_str | exact ev_var rfl (.int _) | apply ev_dI P2 | apply ev_dS P2 | apply ev_tup P2 | apply ev_lst P2 | apply ev_neg
    all_goals first | (show _ ≤ _; decide) | (simp only [List.length_cons, List.length_nil]; omega) | omega | trace_state
  refine gName_go ?_
  have P3 : IsL q.p (hd c J3) := P2.same (hd_same s3)
  refine Ev.forC (K := K) (p := q.p) (c := c) (H := J3) (ds := odd1 n ++ odd2) ?e3 (s3 _ _ h2) fun l xs J4 s4 hl tl lc' lp => ?_
  case e3 =>
    refine ev_cat P3 (ev_var rfl (Dx.same hd_swap x3)) (ev_lst P3 ?_ (show 6 ≤ 100000 by decide)) (show 12 + 6 ≤ 100000 by decide)
    unfold odd2
    repeat' first | exact evs_nil | apply evs_cons | exact ev_int | exact ev_non | exact ev_bl | exact ev_str | exact ev_var rfl (.int _) | apply ev_dI P3 | apply ev_dS P3 | apply ev_tup P3 | apply ev_lst P3 | apply ev_neg
    all_goals first | (show _ ≤ _; decide) | (simp only [List.length_cons, List.length_nil]; omega) | omega | trace_state
  have xl : xs.length = 18 := tl.len
  refine for_list (K := K) (a := l) (xs := xs) (fun i σ' H' => ∃ v5 v6 zs ds, σ' = [some (.ref q.p), some (.ref ga), some (.int (n : Nat)), some (.ref c), some v3, v5, v6] ∧ Go q (m + i) H H' ∧ H' c = some (.lst zs) ∧ DxAll K (hd2 q.p c H') zs ds ∧ (∀ d ∈ ds, BdG n d) ∧ ds.length = 10 + i ∧ H' l = some (.lst xs) ∧ DxAll K (hd2 q.p c H') xs (odd1 n ++ odd2)) ?_ ?_ ?_ ?_
  · exact ⟨_, _, vs, badG gs, rfl, g2.same (s3.trans s4), s4 _ _ (s3 _ _ h2), DxAll.same (hd2_same (s3.trans s4)) T2, B2, rfl, hl, tl⟩
  · rintro i σ' H' _ ⟨_, _, _, _, _, _, _, _, _, _, h, _⟩
    exact SqL.of h
  · rintro i y σ' H5 hy ⟨v5, v6, zs, ds, rfl, g5, hc5, t5, b5, l5, hl5, o5⟩
    obtain ⟨dy, hdy, qy⟩ := o5.at' hy
    have oy : BdX n dy := by
      rcases List.mem_append.mp hdy with h | h
      · exact odd1_ok n24 _ h
      · exact odd2_ok n24 _ h
    have i18 : i < 18 := by rw [← xl]; exact (List.getElem?_eq_some_iff.mp hy).1
    obtain ⟨gxs, hg5, gxl, _⟩ := (G.kp g5.kp ng).at
    refine ⟨_, rfl, _, rfl, ga, _, rfl, .inl hg5, _, _, rfl, rfl, q, _, _, rfl, by omega, by omega, g5.pen, by omega, fun d H6 d0 d1 g6 => ?_⟩
    have g56 := g5.trans g6
    have hc6 := g6.kp.lst cp hc5
    have hl6 := g6.kp.lst lp hl5
    have t6 := DxAll.same (hd2_kp g6.kp) t5
    have o6 := DxAll.same (hd2_kp g6.kp) o5
    have y6 : Dx K (hd q.p (hd c H6)) y dy := Dx.same hd_swap (Dx.same (hd2_kp g6.kp) qy)
    have fp : Dx K (hd q.p (hd c H6)) (.ref ga) (.list (gs.map patD)) := Dx.same (hd_fresh nc g56.kp) dxg
    have P6 : IsL q.p (hd c H6) := by
      obtain ⟨z, hz⟩ := g56.pen.lst
      exact ⟨z, (hd_ne (Ne.symm cp)).trans hz⟩
    have k1 := cut_len (gs.map patD) none (some d)
    have k2 := cut_len (gs.map patD) (some d) none
    refine gName_go ?_
    dsimp only
    refine ⟨_, rfl, .inl ⟨rfl, _, SqL.of hc6⟩, ?_⟩
    show tOp rCat' _ _ _ _ _
    apply Ev.go (K := K) (p := q.p) (H0 := hd c H6) (S := [c]) ?e (hid_lst hc6) hd_in ?k
    case e =>
      refine ev_cat P6 (ev_cat P6 (ev_slL P6 (ev_var rfl fp) evo_none (evo_some (K := K) (p := q.p) (ev_var rfl (.int _)))) (ev_lst P6 (evs_cons (ev_var rfl y6) evs_nil) (show 1 ≤ 100000 by decide)) ?_) (ev_slL P6 (ev_var rfl fp) (evo_some (K := K) (p := q.p) (ev_var rfl (.int _))) evo_none) ?_
      · simp only [List.length_cons, List.length_nil]; omega
      · simp only [List.length_append, List.length_cons, List.length_nil]; omega
    case k =>
      intro v H9 s9 q9
      rw [gh_hd2] at q9
      have bp := bg_put G.ok n24 l3 oy (some d) (some d)
      have h9 := s9 _ _ hc6
      have zl := t5.len
      refine ⟨c, _, _, rfl, rfl, h9, szl (by omega), ?_⟩
      refine ⟨_, _, _, ds ++ [_], rfl, Go.mut pn nc (g56.same s9), upd_same, ?_, al_app b5 (al_cons bp al_nil), by rw [List.length_append]; show ds.length + 1 = _; omega, ?_, ?_⟩
      · rw [hd2_upd]
        exact (DxAll.same (hd2_same s9) t6).app (.cons q9 .nil)
      · rw [upd_ne lc']
        exact s9 _ _ hl6
      · rw [hd2_upd]
        exact DxAll.same (hd2_same s9) o6
  · rintro σ' H5 ⟨v5, v6, zs, ds, rfl, g5, hc5, t5, b5, l5, hl5, o5⟩
    rw [xl] at g5 l5
    exact ⟨_, rfl, k c zs ds H5 g5 nc hc5 (DxAll.same hd2_hd t5) b5 (by omega)⟩
end
end Af

set_option Elab.async false
set_option linter.all false
set_option maxRecDepth 100000
set_option maxHeartbeats 16000000
namespace Af
open PySem L2
abbrev s_law : Stmt := top 82
abbrev N_law : List Str := ["_law_script", "_law_pen_here", "_law_turn", "_law_plan_here", "_law_made", "_law_many", "_law_guards_here", "_law_thing", "_law_seen", "_law_other", "_law_k"]
theorem sc_law : FnScope N_law ["_law_script"] (defScope s_law) := ⟨rfl, rfl, rfl, by decide +kernel, rfl, by decide +kernel, by decide +kernel⟩

def sp_law (K : PySem.W.Frag) : Sp := fun vs H Q _ => ∃ (a : Addr) (ns : List Int), vs = [.ref a] ∧ SqL K H a (ns.map V.int) ∧ ∀ H', Q (.bl true) H'
theorem OkP.of {s t : Nat} {pl : Pl} (g : Good s t pl) (h1 : s ≤ 40) (h2 : t ≤ 40) : OkP pl := ⟨g.c1, g.c24, g.cb, g.w1, g.w24, g.st, Nat.le_trans g.sl h1, Nat.le_trans (allP_tot g.st) (Nat.le_trans g.tl h2)⟩
theorem first_own {K : PySem.W.Frag} {C : Addr} : PySem.W.notFirst K C (.ref C) = true := by
  unfold PySem.W.notFirst
  simp
section
variable {K : PySem.W.Frag} {mg : Str → Option Value} {C p : Addr} {H : Hp} {x y : V} {pl pl' : Pl} {n : String} {Q : VK}
theorem ne_ins (T : PlanC K mg C) (hx : PlanI p C H x pl) (hy : PlanI p C H y pl') (q : Q (.bl (!samePl pl pl')) H) : rOwnNe K C (sp_eq K C) x y H Q := by
  obtain ⟨a, dx, _, _, fs, _, rfl, h1, _⟩ := hx.ex
  obtain ⟨b, dy, _, _, gs, _, rfl, g1, _⟩ := hy.ex
  exact ⟨a, dx, fs, _, rfl, h1, T.ty g1, first_own, p, _, _, pl, rfl, hx, .inl ⟨pl', hy, _, rfl, q⟩⟩
end
/-! how many gaps there are -/
theorem kp_updL {H : Hp} {D : Addr} {xs ys : List V} (h : H D = some (.lst xs)) : Kp D H (upd H D (.lst ys)) := fun a o n e => by
  by_cases z : a = D
  · subst z
    rw [h] at e
    cases e
    rcases n with n | n
    · exact absurd rfl n
    · exact absurd rfl (n _)
  · rw [upd_ne z]
    exact e
theorem guards_ok {H : Hp} {ga : Addr} {n : Nat} {gs : List Ptn} (G : GdV H ga n gs) : guardsB n (.list (gs.map patD)) = true := by
  have l := G.l
  show (decide ((gs.map patD).length ≤ 99) && (gs.map patD).all (patB (n : Nat))) = true
  rw [Bool.and_eq_true, List.all_eq_true]
  refine ⟨decide_eq_true (by rw [List.length_map]; exact l), fun d hd => ?_⟩
  obtain ⟨g, hg, rfl⟩ := List.mem_map.mp hd
  exact pat_ok (G.ok g hg).1
theorem guards_sz {H : Hp} {ga : Addr} {n : Nat} {gs : List Ptn} (G : GdV H ga n gs) : SzGd (.list (gs.map patD)) := fun ds e => by
  cases e
  have l := G.l
  refine ⟨by rw [List.length_map]; omega, fun d hd => ?_⟩
  obtain ⟨g, hg, rfl⟩ := List.mem_map.mp hd
  obtain ⟨o, l24⟩ := G.ok g hg
  exact pat_sz o (by omega)
theorem rep_pairs {α β : Type} {R : α → β → Prop} {x : α} {y : β} (h : R x y) : ∀ n, Paired R (List.replicate n x) (List.replicate n y)
  | 0 => .nil
  | n + 1 => .cons h (rep_pairs h n)
theorem ok7 {n : Nat} (h : 1 ≤ n) : OkPt n [(0, [7])] := ⟨by simp, fun p hp => by rw [List.mem_singleton.mp hp]; show 0 < n; omega, fun p hp => by rw [List.mem_singleton.mp hp]; simp, fun p hp => by rw [List.mem_singleton.mp hp]; simp, fun p hp z hz => by
  rw [List.mem_singleton.mp hp] at hz
  rw [List.mem_singleton.mp hz]
  decide⟩
/-- the three lists of guards, each one good -/
theorem tri_go {K : PySem.W.Frag} {σ : L2.St} {H : Hp} {g : TG} {tb : TS} {E : Ends} {D : Addr} (h6 : σ[6]? = some (some (.ref D)))
    (k : ∀ e g1 r tp H', Same H H' → H' e = some (.lst []) → PatV H' g1 [(0, [7])] → H' r = some (.lst (List.replicate 99 (.ref g1))) → H' tp = some (.tup [.ref D, .ref e, .ref r]) → ∃ W : Nat → Nat → L2.St → Hp → Prop, (∃ m, W 0 m σ H') ∧ ∀ i m σ H, W i m σ H →
      ((Itt K tp).stop i H ∧ E.nx σ H) ∨ ((Itt K tp).go i H ∧ ∃ N : L2.St → Hp → Prop, (∀ σ' H', N σ' H' → ∃ m', m' < m ∧ W (i + 1) m' σ' H') ∧ ∀ x H', (Itt K tp).yld i H x H' → g x σ H' fun σ2 H2 => tb { E with nx := N, ct := N, bk := E.nx } σ2 H2)) :
    tFor (iTup K (tTup' (tCons (tVar 6) (tCons (tLst' tNil) (tCons (tOp rRep' (tLst' (tCons (tDisp [(tC (.int 0), tTup' (tCons (tC (.int 7)) tNil))]) tNil)) (tC (.int 99))) tNil))))) g tb E σ H := by
  refine ⟨_, h6, szr, fun e Ia na sa' ha => ?_⟩
  dsimp only [tCons, tLst', tOp]
  refine disp_pat [(0, 7)] (by decide) (by decide) fun g1 Ib sb nb pb => ?_
  dsimp only [tNil]
  refine ⟨szr, fun l Ic nc sc hc => ?_⟩
  refine ⟨l, 99, _, rfl, rfl, hc, by decide, by decide, sz (show 99 ≤ 100000 by decide), fun r Id nd sd hd' => ⟨szr, fun tp Ie ne se he => ⟨tp, rfl, ⟨_, SqT.of he⟩, ?_⟩⟩⟩
  exact k e g1 r tp Ie (sa'.trans (sb.trans (sc.trans (sd.trans se)))) (se _ _ (sd _ _ (sc _ _ (sb _ _ ha)))) (pb.same (sc.trans (sd.trans se))) (by rw [se _ _ hd']; show some (HO.lst (List.replicate 99 [V.ref g1]).flatten) = _; rw [List.flatten_replicate_singleton]) he
theorem hd_go {p : Addr} {H G : Hp} (k : Kp p H G) : Same (hd p H) G := fun a o e => by
  have ne : a ≠ p := fun z => by
    rw [z, show hd p H p = none from if_pos rfl] at e
    cases e
  exact k a o (.inl ne) (hd_in a o e)
def othD : List PyData := [.none, .tuple [.int 0, .list []], .int 5, .dict [], .list [], .tuple [.int 0, .none]]
section
variable {P : Program} {w : World} {K : PySem.W.Frag} {mg : Str → Option Value} {base : Heap}
theorem ok_law {f C fE : Addr} {fd fdE : FuncData} (F : Fun K "law" "law" s_law f fd) (T : Txt mg) (t_repr : mg "repr" = none) (TC : PlanC K mg C) (O : OwnEqC K C fE)
    (G_eq : FnOk P w K mg base CX0 1 fE fdE ["self", "other"] (sp_eq K C)) (b_eq : Binds K fdE ["self", "other"] [])
    (c_l_pen : Cal P w K mg base 1 "_law_pen" ["_law_script"] (sp_pen K)) (c_l_draw : Cal P w K mg base 2 "_law_draw" ["_law_pen_here", "_law_under"] sp_draw) (c_l_plan : Cal P w K mg base 5 "_law_plan" ["_law_pen_here", "_law_most"] sp_plan)
    (c_l_plan_of : Cal P w K mg base 8 "_law_plan_of" ["_law_plan_here"] (sp_plan_of C)) (c_l_pattern : Cal P w K mg base 5 "_law_pattern" ["_law_pen_here", "_law_plan_here"] sp_lpattern)
    (c_l_bad_guards : Cal P w K mg base 3 "_law_bad_guards" ["_law_pen_here", "_law_guards_here", "_law_many"] (sp_badg K)) (c_l_error : Cal P w K mg base 12 "_law_error" ["_law_made", "_law_guards_here", "_law_road", "_law_thing"] (sp_error K C)) :
    FnG P w K mg base 13 f fd ["_law_script"] (sp_law K) := by
  refine okG F sc_law (fun vs H Q E h => ?_) (fun cdv A outer s H vs Q E hr hg h => ?_)
  · obtain ⟨_, _, rfl, _⟩ := h
    rfl
  obtain ⟨a, ns, rfl, ha, k⟩ := h
  refine ⟨_, (pss_cons (ps_set (i := 1) sc_law.nd rfl (Or.inr rfl) (pe_cal c_l_pen hr (pa_cons (pv 0) pa_nil)))
    (pss_cons (ps_for PassesOwn.never rfl (pi_range1 rfl T.range (pa_cons pe_int pa_nil)) (pg_name (i := 2) sc_law.nd rfl (Or.inl rfl))
      (pss_cons (ps_set (i := 3) sc_law.nd rfl (Or.inr rfl) (pe_cal c_l_plan hr (pa_cons (pv 1) (pa_cons pe_int pa_nil))))
    (pss_cons (ps_par (i := 4) (j := 5) rfl sc_law.nd rfl rfl (by decide) rfl rfl (pa_cons (pe_cal c_l_plan_of hr (pa_cons (pv 3) pa_nil)) (pa_cons (pe_callB call_len' (by rfl) T.len (by decide +kernel) (pa_cons (pe_ix ix_seq' (pv 3) pe_int (fun _ _ => rfl)) pa_nil)) pa_nil)) (by rfl))
    (pss_cons (ps_setLc (i := 6) (own := [("_law_k", 10)]) (g := (gName 10)) (tt := tYes) rfl sc_law.nd rfl rfl (sw_true rfl rfl rfl (by decide +kernel)) (pi_range1 rfl T.range (pa_cons (pe_cal c_l_draw hr (pa_cons (pv 1) (pa_cons pe_int pa_nil))) pa_nil)) (blkOk_by (own := [("_law_k", 10)]) (N := N_law) (sc := defScope s_law) (by decide +kernel)) (fun _ _ _ _ _ => pg_name (i := 10) sc_law.nd rfl (Or.inl rfl)) (fun _ _ _ _ _ => pts_nil) (fun _ _ _ _ _ => (pe_cal c_l_pattern hr (pa_cons (pv 1) (pa_cons (pv 3) pa_nil)))))
    (pss_cons (ps_for PassesOwn.never rfl (pi_list (pe_cal c_l_bad_guards hr (pa_cons (pv 1) (pa_cons (pv 6) (pa_cons (pv 5) pa_nil))))) (pg_name (i := 7) sc_law.nd rfl (Or.inl rfl))
      (pss_cons (ps_set (i := 8) sc_law.nd rfl (Or.inl rfl) (pe_callB (call_reprX hg hr.units) (by rfl) t_repr (by decide +kernel) (pa_cons (pv 7) pa_nil)))
    (pss_cons (ps_set (i := 9) sc_law.nd rfl (Or.inl rfl) (pe_ix ix_seq' (pe_lst' (pa_cons pe_non (pa_cons (pe_tup' (pa_cons pe_int (pa_cons (pe_lst' pa_nil) pa_nil))) (pa_cons pe_int (pa_cons pe_dnewK (pa_cons (pe_lst' pa_nil) (pa_cons (pe_tup' (pa_cons pe_int (pa_cons pe_non pa_nil))) pa_nil))))))) (pe_cal c_l_draw hr (pa_cons (pv 1) (pa_cons pe_int pa_nil))) (fun _ _ => rfl)))
    (pss_cons (ps_cut (ps_if (PW.pt (pw_or (pt_cmpR op_ne (pe_cal c_l_error hr (pa_cons (pv 4) (pa_cons (pv 7) (pa_cons pe_int (pa_cons (pv 9) pa_nil))))) pe_str (nomark _)) (pw_or1 (pt_cmpR op_ne (pe_cal c_l_error hr (pa_cons (pv 4) (pa_cons (pv 7) (pa_cons pe_int (pa_cons (pv 9) pa_nil))))) pe_str (nomark _)))))
      (pss_one (ps_ret pe_bl))
      pss_nil))
    (pss_one (ps_if (pt_cmpR op_ne (pe_callB (call_reprX hg hr.units) (by rfl) t_repr (by decide +kernel) (pa_cons (pv 7) pa_nil)) (pv 8) (nomark _))
      (pss_one (ps_ret pe_bl))
      pss_nil))))))
    (pss_cons (ps_for PassesOwn.never rfl (pi_tup (pe_tup' (pa_cons (pv 6) (pa_cons (pe_lst' pa_nil) (pa_cons (pe_op op_rep' (pe_lst' (pa_cons (pe_disp (pps_cons pe_int (pe_tup' (pa_cons pe_int pa_nil)) pps_nil) rfl rfl (by simp) (by decide)) pa_nil)) pe_int) pa_nil))))) (pg_name (i := 7) sc_law.nd rfl (Or.inl rfl))
      (pss_one (ps_if (PW.pt (pw_or (pt_cmpR op_ne (pe_cal c_l_error hr (pa_cons (pv 4) (pa_cons (pv 7) (pa_cons pe_int (pa_cons pe_non pa_nil))))) pe_str (nomark _)) (pw_or1 (pt_cmpR op_ne (pe_cal c_l_error hr (pa_cons (pv 4) (pa_cons (pv 7) (pa_cons pe_int (pa_cons pe_non pa_nil))))) pe_str (nomark _)))))
      (pss_one (ps_ret pe_bl))
      pss_nil)))
    (pss_one (ps_if (pt_cmpR (op_ownNe O G_eq b_eq hr) (pv 4) (pe_cal c_l_plan_of hr (pa_cons (pv 3) pa_nil)) (nomark _))
      (pss_one (ps_ret pe_bl))
      pss_nil))))))))
    (pss_one (ps_ret pe_bl)))), ?_⟩
  refine ⟨_, rfl, a, ns, rfl, ha, fun q H1 s1 nqp nqc pn1 => ⟨6, rfl, by decide, by decide, for_range (n := 6) (lo := 0) (fun i σ' H' => ∃ v2 v3 v4 v5 v6 v7 v8 v9, σ' = [some (.ref a), some (.ref q.p), v2, v3, v4, v5, v6, v7, v8, v9, none] ∧ Pen q (6000 * i) H') ?_ ?_ ?_⟩⟩
  · exact ⟨_, _, _, _, _, _, _, _, rfl, pn1⟩
  · rintro i σ' H2 hi ⟨v2, v3, v4, v5, v6, v7, v8, v9, rfl, pn2⟩
    clear ha s1
    refine ⟨_, rfl, q, _, 5, rfl, pn2, by omega, by decide, by decide, fun pv H3 pl g3 hv gd0 c5 p5' => ?_⟩
    have pn3 := g3.pen
    have good : OkP pl := OkP.of gd0 (by decide) (by decide)
    have o24 := good.c24
    have w0 : 0 < pl.w := by have := good.w1; omega
    have wl : ∀ f ws, some (f, ws) ∈ pl.sts → ws.length ≤ 100 := fun f ws hm => by
      obtain ⟨o1, _, o3, _⟩ := good.st _ hm
      omega
    have osl := good.sl
    have opc := good.pc
    obtain ⟨ta, ca, sa, xs, rfl, p1, p2, p3, p4, p5⟩ := hv.ex
    have xl := paired_len p5
    refine ⟨_, rfl, q.p, .ref ta, pl, rfl, hv, good, fun x H4 s4 hx0 => ?_⟩
    obtain ⟨lp, hlp⟩ := pn3.lst
    have hx4 := hx0.w (p := q.p) hlp
    have pn4 := pn3.same s4
    have f1 := s4 _ _ p1
    have f2 := s4 _ _ p2
    have f4 := s4 _ _ p4
    have f5 := steps_same s4 p5
    clear hv p1 p2 p4 p5 s4 hx0 hlp
    refine ⟨_, rfl, ta, _, 0, _, rfl, rfl, .inr f1, rfl, ca, _, rfl, .inr f2, ?_⟩
    rw [ivs_len]
    refine ⟨_, _, rfl, ?_⟩
    -- the guards
    refine ⟨_, rfl, q, _, 4, rfl, by decide, by decide, pn4, by omega, fun gn H7 d0 d1 g7 => ⟨_, rfl, by omega, by omega, fun D hD => lc_range (lo := 0) (n := gn.toNat) (fun j H' => ∃ ds gs, Go q (6000 * i + 2101 + 400 * j) H4 H' ∧ H' D = some (.lst ds) ∧ ds.length = j ∧ Paired (PatE H') ds gs ∧ (∀ ps ∈ gs, OkPt pl.cs.length ps ∧ ps.length ≤ 24)) ?_ ?_ ?_⟩⟩
    · exact ⟨[], [], (g7.mono (by omega)).same (same_new hD), upd_same, rfl, .nil, fun ps hp => by cases hp⟩
    · rintro j H' hj ⟨ds, gs, g, hl, dl, dp, dok⟩
      have pg := g7.pen
      have nD := (pg.free hD).1
      have n6 : H4 D = none := g7.none pn4 hD
      refine ⟨rfl, _, rfl, _, rfl, q, _, ta, ca, sa, pl.w, xs, pl.sts, pl.cs, rfl, g.pen, by omega, g.kp.tup f1, g.kp.tup f2, g.kp.lst p3 f4, p3, steps_kp g.kp f5, w0, by omega, wl, good.st, o24, good.cb, opc, fun d H'' ps g2 n8 pt8 op8 l8 => ?_⟩
      have hD2 := g2.kp.lst nD hl
      refine ⟨_, hD2, szl (by omega), ds ++ [.ref d], gs ++ [ps], Go.mut pn4 n6 ((g.trans g2).mono (by omega)), upd_same, by rw [List.length_append, dl]; rfl, ?_, fun e he => ?_⟩
      · exact L2.Paired.mapP (paired_app (L2.Paired.mapP dp fun _ _ z => z.kp g2.kp) (.cons ⟨d, rfl, pt8⟩ .nil)) fun _ _ z => z.kp (kp_updL hD2)
      · rcases List.mem_append.mp he with he | he
        · exact dok e he
        · rw [List.mem_singleton.mp he]
          exact ⟨op8, by omega⟩
    rintro H8 ⟨ds, gs, g8, h8, dl, dp, dok⟩
    have nD : D ≠ q.p := (g7.pen.free hD).1
    have gl : gs.length = gn.toNat := by rw [← paired_len dp]; exact dl
    have gd : GdV H8 D pl.cs.length gs := ⟨⟨ds, h8, dp⟩, dok, by omega⟩
    have x8 := hx4.kp g8.kp
    have pn8 : Pen q (6000 * i + 3301) H8 := g8.pen.mono (by omega)
    have e1 := g8.kp.tup f1
    have e2 := g8.kp.tup f2
    have e4 := g8.kp.lst p3 f4
    have e5 := steps_kp g8.kp f5
    clear g7 hD g8 hx4 f1 f2 f4 f5 pn4 dok dp dl
    obtain ⟨sl, ql, el, pF, z1, z2, z3⟩ := x8.ex
    have xF : ∀ {H' : Hp}, Kp q.p H8 H' → PlanF C H' x pl sl ql el := fun kp => pF.kp kp z1 z2 z3
    -- things that are no guards
    refine ⟨_, rfl, _, rfl, _, rfl, q, _, D, _, gs, rfl, pn8, by omega, gd, o24, by omega, nD, fun c cs bs Hb gb nc hc tc bc lc => ⟨c, rfl, ⟨_, SqL.of hc⟩, ?_⟩⟩
    have cp : c ≠ q.p := (pn8.free nc).1
    have csl := tc.len
    refine for_list (K := K) (a := c) (xs := cs) (fun n σ' H' => ∃ v7 v8 v9, σ' = [some (.ref a), some (.ref q.p), some (.int (0 + (i : Int))), some (.ref ta), some x, some (.int ((pl.cs.length : Nat) : Int)), some (.ref D), v7, v8, v9, none] ∧ Go q (6000 * i + 3319 + n) Hb H') ?_ ?_ ?_ ?_
    · exact ⟨_, _, _, rfl, Go.refl (gb.pen.mono (by omega))⟩
    · rintro n σ' H' _ ⟨_, _, _, _, g⟩
      exact SqL.of (g.kp.lst cp hc)
    · rintro n y σ' H' hy ⟨v7, v8, v9, rfl, g⟩
      obtain ⟨dy, hdy, qy⟩ := tc.at hy
      have nl : n < 28 := by have := (List.getElem?_eq_some_iff.mp hy).1; omega
      have by_ := bc dy (List.mem_of_getElem? hdy)
      have dxk : ∀ {G : Hp}, Kp q.p Hb G → Dx K G y dy := fun kp => Dx.same (hd_go kp) qy
      have bsh := by_.b.sh
      have bdp : dy.depth ≤ 60 := Nat.le_trans by_.b.dp (by decide)
      have btx : dy.shown.length ≤ sizeLine := Nat.le_trans by_.b.tx (by decide)
      refine ⟨_, rfl, _, _, rfl, dxk g.kp, bsh, bdp, btx, ?_⟩
      dsimp only
      show tLst' _ _ _ _
      refine Evs.run (K := K) (p := q.p) (H0 := H') (ds := othD) ?e (Same.refl _) fun vs J1 s1 t1 => ⟨?sz, fun l J2 n2 s2 h2 => ?_⟩
      case e =>
        have P0 : IsL q.p H' := g.pen.lst
        unfold othD
        repeat' first | exact evs_nil | apply evs_cons | exact ev_int | exact ev_non | exact ev_dnew P0 | apply ev_tup P0 | apply ev_lst P0
        all_goals first | (show _ ≤ _; decide) | (simp only [List.length_cons, List.length_nil]; omega) | omega | trace_state
      case sz => exact sz (show vs.length ≤ 100000 by rw [t1.len]; show 6 ≤ _; decide)
      have vl : vs.length = 6 := t1.len
      have g2 := g.same (s1.trans s2)
      refine ⟨_, rfl, q, _, 6, rfl, by decide, by decide, g2.pen, by omega, fun d J3 d0 d1 g3 => ?_⟩
      have G3 := g2.trans g3
      have nl' : l ≠ q.p := ((g.pen.same s1).free n2).1
      have h3 := g3.kp.lst nl' h2
      obtain ⟨dn, rfl⟩ := Int.eq_ofNat_of_zero_le d0
      have dnl : dn < vs.length := by omega
      refine ⟨l, _, _, _, rfl, rfl, .inl h3, atI_nat (List.getElem?_eq_getElem dnl), ?_⟩
      generalize vs[dn] = z
      have K3 := gb.kp.trans G3.kp
      clear h2 h3 t1 vl dnl n2
      refine ⟨fun σ' H' => σ' = [some (.ref a), some (.ref q.p), some (.int (0 + (i : Int))), some (.ref ta), some x, some (.int ((pl.cs.length : Nat) : Int)), some (.ref D), some y, some (.str dy.shown), some z, none] ∧ Go q (6000 * i + 3319 + (n + 1)) Hb H', ?_, ?_⟩
      · refine ⟨_, rfl, _, rfl, _, rfl, x, y, z, 0, pl, sl, ql, el, dy, rfl, xF K3, dxk G3.kp, by_.s, .inl ⟨by_.q, fun J4 s4 => ?_⟩⟩
        refine ⟨rfl, _, rfl, iteF ⟨_, rfl, _, rfl, _, rfl, x, y, z, 1, pl, sl, ql, el, dy, rfl, xF (K3.trans (Kp.same s4)), dxk (G3.kp.trans (Kp.same s4)), by_.s, .inl ⟨by_.q, fun J5 s5 => ?_⟩⟩⟩
        exact ⟨rfl, _, rfl, iteF ⟨rfl, (G3.same (s4.trans s5)).mono (by omega)⟩⟩
      rintro _ J5 ⟨rfl, G5⟩
      refine ⟨_, rfl, _, _, rfl, dxk G5.kp, bsh, bdp, btx, _, rfl, rfl, _, rfl, ite2 (fun e => ?_) (fun _ => ⟨_, _, _, rfl, G5⟩)⟩
      exfalso
      generalize dy.shown = txx at e
      simp at e
    rintro σ' H' ⟨v7, v8, v9, rfl, g⟩
    rw [csl] at g
    have G0 := gb.kp.trans g.kp
    have pnE : Pen q (6000 * i + 3350) H' := g.pen.mono (by omega)
    have gD := gd.kp G0 nD
    have x9 := x8.kp G0
    have e1 := G0.tup e1
    have e2 := G0.tup e2
    have e4 := G0.lst p3 e4
    have e5 := steps_kp G0 e5
    have xF : ∀ {H'' : Hp}, Same H' H'' → PlanF C H'' x pl sl ql el := fun s => xF (G0.trans (Kp.same s))
    clear g gb nc hc tc bc lc cp csl gd x8 pn8
    -- guards
    refine tri_go (K := K) rfl fun e g1 r tp Ie S ha pb hd' he => ?_
    have gs3 : ∀ y ∈ [V.ref D, .ref e, .ref r], ∃ ga gz, y = .ref ga ∧ GdV Ie ga pl.cs.length gz := fun y hy => by
      simp only [List.mem_cons, List.not_mem_nil, or_false] at hy
      rcases hy with rfl | rfl | rfl
      · exact ⟨D, gs, rfl, gD.same S⟩
      · exact ⟨e, [], rfl, ⟨⟨[], ha, .nil⟩, fun _ h => (by cases h), Nat.zero_le _⟩⟩
      · refine ⟨r, List.replicate 99 [(0, [7])], rfl, ⟨⟨_, hd', rep_pairs ⟨g1, rfl, pb⟩ 99⟩, fun ps hp => ?_, by rw [List.length_replicate]; exact Nat.le_refl _⟩⟩
        rw [(List.mem_replicate.mp hp).2]
        exact ⟨ok7 good.c1, (show 1 ≤ 24 by decide)⟩
    refine for_tup (K := K) (a := tp) (xs := [V.ref D, .ref e, .ref r]) (fun n σ' H' => ∃ v7, σ' = [some (.ref a), some (.ref q.p), some (.int (0 + (i : Int))), some (.ref ta), some x, some (.int ((pl.cs.length : Nat) : Int)), some (.ref D), v7, v8, v9, none] ∧ Same Ie H') ?_ ?_ ?_ ?_
    · exact ⟨_, rfl, Same.refl _⟩
    · rintro n σ' H' _ ⟨_, _, s⟩
      exact SqT.of (s _ _ he)
    · rintro n y σ' H' hy ⟨v7, rfl, s⟩
      obtain ⟨ga, gz, rfl, G⟩ := gs3 y (List.mem_of_getElem? hy)
      have G1 := G.same s
      refine ⟨_, rfl, _, rfl, x, _, .non, 0, pl, sl, ql, el, _, rfl, xF (S.trans s), dx_guards G1, guards_sz G, .inr ⟨guards_ok G, rfl, ⟨ga, gz, rfl, G1⟩, fun J1 s1 => ?_⟩⟩
      have G2 := G1.same s1
      refine ⟨rfl, _, rfl, iteF ⟨_, rfl, _, rfl, x, _, .non, 1, pl, sl, ql, el, _, rfl, xF (S.trans (s.trans s1)), dx_guards G2, guards_sz G, .inr ⟨guards_ok G, rfl, ⟨ga, gz, rfl, G2⟩, fun J2 s2 => ?_⟩⟩⟩
      exact ⟨rfl, _, rfl, iteF ⟨_, rfl, s.trans (s1.trans s2)⟩⟩
    rintro σ' H9 ⟨v7, rfl, s⟩
    have S9 := S.trans s
    refine ⟨_, rfl, _, rfl, q.p, .ref ta, pl, rfl, ⟨ta, ca, sa, xs, rfl, S9 _ _ e1, S9 _ _ e2, p3, S9 _ _ e4, steps_same S9 e5⟩, good, fun z Ha sz hz0 => ?_⟩
    obtain ⟨lp9, hlp9⟩ := (pnE.same S9).lst
    have hz := hz0.w (p := q.p) hlp9
    refine ne_ins TC ((x9.same S9).same sz).i hz.i ?_
    rw [same_refl]
    refine ⟨_, rfl, iteF ?_⟩
    exact ⟨_, _, _, _, _, _, _, _, rfl, (pnE.same (S9.trans sz)).mono (by omega)⟩
  · rintro σ' H2 ⟨v2, v3, v4, v5, v6, v7, v8, v9, rfl, pn2⟩
    exact k H2
end
end Af

set_option Elab.async false
set_option linter.all false
set_option maxRecDepth 100000
set_option maxHeartbeats 4000000
namespace Af
open PySem L2
def tyV : Value → Bool
  | .type _ => true
  | _ => false
theorem mro_ty : ∀ n ∈ tyNames, (fastBuiltinMro n).elim false (·.all tyV) = true := by decide +kernel
theorem sub_ty {K : PySem.W.Frag} {C : Addr} {n : String} (h : n ∈ tyNames) : PySem.W.subIn K (.type n) (.ref C) = some false := by
  have q := mro_ty n h
  show (fastBuiltinMro n).map (·.contains (.ref C)) = some false
  cases e : fastBuiltinMro n with
  | none =>
    rw [e] at q
    cases q
  | some l =>
    rw [e] at q
    show some (l.contains (.ref C)) = some false
    congr 1
    refine Bool.eq_false_iff.mpr fun z => ?_
    have m : Value.ref C ∈ l := by simpa using z
    have := List.all_eq_true.mp q _ m
    cases this
theorem is_own {K : PySem.W.Frag} {t : Value} : PySem.W.kitOne K t t = some true := by
  unfold PySem.W.kitOne
  rw [if_pos (by simp)]
theorem is_no {K : PySem.W.Frag} {C D : Addr} (ic : PySem.W.isClsIn K D = true) (tc : PySem.W.typeIn K (.ref D) = some (.type "type")) (s : PySem.W.subIn K (.ref C) (.ref D) = some false) (n : (Value.ref C == Value.ref D) = false) : PySem.W.kitOne K (.ref C) (.ref D) = some false := by
  unfold PySem.W.kitOne
  rw [if_neg (by rw [n]; decide)]
  show (if ((PySem.W.clsIn K D).isSome && PySem.W.typeIn K (.ref D) == some (.type "type")) = true then PySem.W.subIn K (.ref C) (.ref D) else none) = some false
  rw [if_pos (by rw [tc, show (PySem.W.clsIn K D).isSome = true from ic]; simp)]
  exact s
theorem is_val {K : PySem.W.Frag} {C : Addr} (s : PySem.W.subIn K (.ref C) (.type "ValueError") = some true) : PySem.W.kitOne K (.ref C) (.type "ValueError") = some true := by
  unfold PySem.W.kitOne
  rw [if_neg (by simp)]
  show (if PySem.W.kitMeta "ValueError" = true then PySem.W.subIn K (.ref C) (.type "ValueError") else none) = _
  rw [if_pos (by decide +kernel)]
  exact s
theorem any_no {K : PySem.W.Frag} {C : Value} {D : Value} {l : List Value} (h : PySem.W.kitOne K C D = some false) (t : PySem.W.kitAny K C l = some false) : PySem.W.kitAny K C (D :: l) = some false :=
  kitAny_cons h (fun _ => t) (fun z => by cases z)
theorem first_not {K : PySem.W.Frag} {C : Addr} {n : String} (h : n ∈ tyNames) : PySem.W.notFirst K C (.type n) = true := by
  unfold PySem.W.notFirst
  rw [sub_ty h]
  simp
theorem is_not {K : PySem.W.Frag} {C : Addr} {n : String} (h : n ∈ tyNames) (ic : PySem.W.isClsIn K C = true) (tc : PySem.W.typeIn K (.ref C) = some (.type "type")) : PySem.W.kitOne K (.type n) (.ref C) = some false := by
  unfold PySem.W.kitOne
  rw [if_neg (by simp)]
  show (if ((PySem.W.clsIn K C).isSome && PySem.W.typeIn K (.ref C) == some (.type "type")) = true then PySem.W.subIn K (.type n) (.ref C) else none) = some false
  rw [if_pos (by rw [tc, show (PySem.W.clsIn K C).isSome = true from ic]; simp)]
  exact sub_ty h
theorem all_mk {l : PySem.W.OpenLaw} {w : World} {K : PySem.W.Frag} {h : Heap} {mg : Str → Option Value} {fa C U : Addr} (X : K.In h) (G : h.Ns mainGlobals mg) (hfa : mg "law" = some (.ref fa))
    {f1 : Addr} {od1 an1 : Option Addr} {sl1 : Array (Option Value)} {oc1 kV1 dc1 pm1 cd1 ct1 : Value}
    {f2 : Addr} {od2 an2 : Option Addr} {sl2 : Array (Option Value)} {oc2 kV2 dc2 pm2 cd2 ct2 : Value}
    {f3 : Addr} {od3 an3 : Option Addr} {sl3 : Array (Option Value)} {oc3 kV3 dc3 pm3 cd3 ct3 : Value}
    {f4 : Addr} {od4 an4 : Option Addr} {sl4 : Array (Option Value)} {oc4 kV4 dc4 pm4 cd4 ct4 : Value}
    {f5 : Addr} {od5 an5 : Option Addr} {sl5 : Array (Option Value)} {oc5 kV5 dc5 pm5 cd5 ct5 : Value}
    {f6 : Addr} {od6 an6 : Option Addr} {sl6 : Array (Option Value)} {oc6 kV6 dc6 pm6 cd6 ct6 : Value}
    {f7 : Addr} {od7 an7 : Option Addr} {sl7 : Array (Option Value)} {oc7 kV7 dc7 pm7 cd7 ct7 : Value}
    {f8 : Addr} {od8 an8 : Option Addr} {sl8 : Array (Option Value)} {oc8 kV8 dc8 pm8 cd8 ct8 : Value}
    {f9 : Addr} {od9 an9 : Option Addr} {sl9 : Array (Option Value)} {oc9 kV9 dc9 pm9 cd9 ct9 : Value}
    {f10 : Addr} {od10 an10 : Option Addr} {sl10 : Array (Option Value)} {oc10 kV10 dc10 pm10 cd10 ct10 : Value}
    {f11 : Addr} {od11 an11 : Option Addr} {sl11 : Array (Option Value)} {oc11 kV11 dc11 pm11 cd11 ct11 : Value}
    {f12 : Addr} {od12 an12 : Option Addr} {sl12 : Array (Option Value)} {oc12 kV12 dc12 pm12 cd12 ct12 : Value}
    {f13 : Addr} {od13 an13 : Option Addr} {sl13 : Array (Option Value)} {oc13 kV13 dc13 pm13 cd13 ct13 : Value}
    {f14 : Addr} {od14 an14 : Option Addr} {sl14 : Array (Option Value)} {oc14 kV14 dc14 pm14 cd14 ct14 : Value}
    {f15 : Addr} {od15 an15 : Option Addr} {sl15 : Array (Option Value)} {oc15 kV15 dc15 pm15 cd15 ct15 : Value}
    {f16 : Addr} {od16 an16 : Option Addr} {sl16 : Array (Option Value)} {oc16 kV16 dc16 pm16 cd16 ct16 : Value}
    {f17 : Addr} {od17 an17 : Option Addr} {sl17 : Array (Option Value)} {oc17 kV17 dc17 pm17 cd17 ct17 : Value}
    {f18 : Addr} {od18 an18 : Option Addr} {sl18 : Array (Option Value)} {oc18 kV18 dc18 pm18 cd18 ct18 : Value}
    {f19 : Addr} {od19 an19 : Option Addr} {sl19 : Array (Option Value)} {oc19 kV19 dc19 pm19 cd19 ct19 : Value}
    {f20 : Addr} {od20 an20 : Option Addr} {sl20 : Array (Option Value)} {oc20 kV20 dc20 pm20 cd20 ct20 : Value}
    {f21 : Addr} {od21 an21 : Option Addr} {sl21 : Array (Option Value)} {oc21 kV21 dc21 pm21 cd21 ct21 : Value}
    {f22 : Addr} {od22 an22 : Option Addr} {sl22 : Array (Option Value)} {oc22 kV22 dc22 pm22 cd22 ct22 : Value}
    {f23 : Addr} {od23 an23 : Option Addr} {sl23 : Array (Option Value)} {oc23 kV23 dc23 pm23 cd23 ct23 : Value}
    {f24 : Addr} {od24 an24 : Option Addr} {sl24 : Array (Option Value)} {oc24 kV24 dc24 pm24 cd24 ct24 : Value}
    {f25 : Addr} {od25 an25 : Option Addr} {sl25 : Array (Option Value)} {oc25 kV25 dc25 pm25 cd25 ct25 : Value}
    {f26 : Addr} {od26 an26 : Option Addr} {sl26 : Array (Option Value)} {oc26 kV26 dc26 pm26 cd26 ct26 : Value}
    {f27 : Addr} {od27 an27 : Option Addr} {sl27 : Array (Option Value)} {oc27 kV27 dc27 pm27 cd27 ct27 : Value}
    {f28 : Addr} {od28 an28 : Option Addr} {sl28 : Array (Option Value)} {oc28 kV28 dc28 pm28 cd28 ct28 : Value}
    {f29 : Addr} {od29 an29 : Option Addr} {sl29 : Array (Option Value)} {oc29 kV29 dc29 pm29 cd29 ct29 : Value}
    {f30 : Addr} {od30 an30 : Option Addr} {sl30 : Array (Option Value)} {oc30 kV30 dc30 pm30 cd30 ct30 : Value}
    {f31 : Addr} {od31 an31 : Option Addr} {sl31 : Array (Option Value)} {oc31 kV31 dc31 pm31 cd31 ct31 : Value}
    {f32 : Addr} {od32 an32 : Option Addr} {sl32 : Array (Option Value)} {oc32 kV32 dc32 pm32 cd32 ct32 : Value}
    {f33 : Addr} {od33 an33 : Option Addr} {sl33 : Array (Option Value)} {oc33 kV33 dc33 pm33 cd33 ct33 : Value}
    {f34 : Addr} {od34 an34 : Option Addr} {sl34 : Array (Option Value)} {oc34 kV34 dc34 pm34 cd34 ct34 : Value}
    {f35 : Addr} {od35 an35 : Option Addr} {sl35 : Array (Option Value)} {oc35 kV35 dc35 pm35 cd35 ct35 : Value}
    {f36 : Addr} {od36 an36 : Option Addr} {sl36 : Array (Option Value)} {oc36 kV36 dc36 pm36 cd36 ct36 : Value}
    {f37 : Addr} {od37 an37 : Option Addr} {sl37 : Array (Option Value)} {oc37 kV37 dc37 pm37 cd37 ct37 : Value}
    {f38 : Addr} {od38 an38 : Option Addr} {sl38 : Array (Option Value)} {oc38 kV38 dc38 pm38 cd38 ct38 : Value}
    {f39 : Addr} {od39 an39 : Option Addr} {sl39 : Array (Option Value)} {oc39 kV39 dc39 pm39 cd39 ct39 : Value}
    {f40 : Addr} {od40 an40 : Option Addr} {sl40 : Array (Option Value)} {oc40 kV40 dc40 pm40 cd40 ct40 : Value}
    {f41 : Addr} {od41 an41 : Option Addr} {sl41 : Array (Option Value)} {oc41 kV41 dc41 pm41 cd41 ct41 : Value}
    {f42 : Addr} {od42 an42 : Option Addr} {sl42 : Array (Option Value)} {oc42 kV42 dc42 pm42 cd42 ct42 : Value}
    {f43 : Addr} {od43 an43 : Option Addr} {sl43 : Array (Option Value)} {oc43 kV43 dc43 pm43 cd43 ct43 : Value}
    {f44 : Addr} {od44 an44 : Option Addr} {sl44 : Array (Option Value)} {oc44 kV44 dc44 pm44 cd44 ct44 : Value}
    {f45 : Addr} {od45 an45 : Option Addr} {sl45 : Array (Option Value)} {oc45 kV45 dc45 pm45 cd45 ct45 : Value}
    {f46 : Addr} {od46 an46 : Option Addr} {sl46 : Array (Option Value)} {oc46 kV46 dc46 pm46 cd46 ct46 : Value}
    {f47 : Addr} {od47 an47 : Option Addr} {sl47 : Array (Option Value)} {oc47 kV47 dc47 pm47 cd47 ct47 : Value}
    {f48 : Addr} {od48 an48 : Option Addr} {sl48 : Array (Option Value)} {oc48 kV48 dc48 pm48 cd48 ct48 : Value}
    {f49 : Addr} {od49 an49 : Option Addr} {sl49 : Array (Option Value)} {oc49 kV49 dc49 pm49 cd49 ct49 : Value}
    {f50 : Addr} {od50 an50 : Option Addr} {sl50 : Array (Option Value)} {oc50 kV50 dc50 pm50 cd50 ct50 : Value}
    {f51 : Addr} {od51 an51 : Option Addr} {sl51 : Array (Option Value)} {oc51 kV51 dc51 pm51 cd51 ct51 : Value}
    {f52 : Addr} {od52 an52 : Option Addr} {sl52 : Array (Option Value)} {oc52 kV52 dc52 pm52 cd52 ct52 : Value}
    {f53 : Addr} {od53 an53 : Option Addr} {sl53 : Array (Option Value)} {oc53 kV53 dc53 pm53 cd53 ct53 : Value}
    {f54 : Addr} {od54 an54 : Option Addr} {sl54 : Array (Option Value)} {oc54 kV54 dc54 pm54 cd54 ct54 : Value}
    {f55 : Addr} {od55 an55 : Option Addr} {sl55 : Array (Option Value)} {oc55 kV55 dc55 pm55 cd55 ct55 : Value}
    {f56 : Addr} {od56 an56 : Option Addr} {sl56 : Array (Option Value)} {oc56 kV56 dc56 pm56 cd56 ct56 : Value}
    {f57 : Addr} {od57 an57 : Option Addr} {sl57 : Array (Option Value)} {oc57 kV57 dc57 pm57 cd57 ct57 : Value}
    {f58 : Addr} {od58 an58 : Option Addr} {sl58 : Array (Option Value)} {oc58 kV58 dc58 pm58 cd58 ct58 : Value}
    {f59 : Addr} {od59 an59 : Option Addr} {sl59 : Array (Option Value)} {oc59 kV59 dc59 pm59 cd59 ct59 : Value}
    {f60 : Addr} {od60 an60 : Option Addr} {sl60 : Array (Option Value)} {oc60 kV60 dc60 pm60 cd60 ct60 : Value}
    {f61 : Addr} {od61 an61 : Option Addr} {sl61 : Array (Option Value)} {oc61 kV61 dc61 pm61 cd61 ct61 : Value}
    {pp61 : Addr} {pr61 : List Value}
    {f62 : Addr} {od62 an62 : Option Addr} {sl62 : Array (Option Value)} {oc62 kV62 dc62 pm62 cd62 ct62 : Value}
    {pp62 : Addr} {pr62 : List Value}
    {f63 : Addr} {od63 an63 : Option Addr} {sl63 : Array (Option Value)} {oc63 kV63 dc63 pm63 cd63 ct63 : Value}
    {pp63 : Addr} {pr63 : List Value}
    {f64 : Addr} {od64 an64 : Option Addr} {sl64 : Array (Option Value)} {oc64 kV64 dc64 pm64 cd64 ct64 : Value}
    {pp64 : Addr} {pr64 : List Value}
    {f65 : Addr} {od65 an65 : Option Addr} {sl65 : Array (Option Value)} {oc65 kV65 dc65 pm65 cd65 ct65 : Value}
    {pp65 : Addr} {pr65 : List Value}
    {f66 : Addr} {od66 an66 : Option Addr} {sl66 : Array (Option Value)} {oc66 kV66 dc66 pm66 cd66 ct66 : Value}
    {f67 : Addr} {od67 an67 : Option Addr} {sl67 : Array (Option Value)} {oc67 kV67 dc67 pm67 cd67 ct67 : Value}
    {CF CE IF IP IG : Addr}
    {tk0 : Nat}
    {tk1 : Nat}
    {tk2 : Nat}
    {tkBASEa : Nat}
    {tkMOST_GUARDSa : Nat}
    {ta0 : Addr} {td0 : Option Addr} {ti0 : Array Value} {tn0 : Nat} {ts0 : Array (Option Value)}
    (a1 : PySem.W.nsIn K mainGlobals "is_integer" = some (some (.ref f1))) (l1 : K.lookup f1 = some ⟨oc1, od1, .func (PySem.W.fnOf "is_integer" "is_integer" (defArgs s_is_integer) (defBody s_is_integer) (defScope s_is_integer) .none kV1 dc1 pm1 an1 cd1 ct1), sl1⟩) (c1 : PySem.W.codeIn K cd1 "is_integer" = true) (k1 : PySem.W.keepIn K (.ref f1) = true)
    (a2 : PySem.W.nsIn K mainGlobals "is_index" = some (some (.ref f2))) (l2 : K.lookup f2 = some ⟨oc2, od2, .func (PySem.W.fnOf "is_index" "is_index" (defArgs s_is_index) (defBody s_is_index) (defScope s_is_index) .none kV2 dc2 pm2 an2 cd2 ct2), sl2⟩) (c2 : PySem.W.codeIn K cd2 "is_index" = true) (k2 : PySem.W.keepIn K (.ref f2) = true)
    (a3 : PySem.W.nsIn K mainGlobals "is_width" = some (some (.ref f3))) (l3 : K.lookup f3 = some ⟨oc3, od3, .func (PySem.W.fnOf "is_width" "is_width" (defArgs s_is_width) (defBody s_is_width) (defScope s_is_width) .none kV3 dc3 pm3 an3 cd3 ct3), sl3⟩) (c3 : PySem.W.codeIn K cd3 "is_width" = true) (k3 : PySem.W.keepIn K (.ref f3) = true)
    (a4 : PySem.W.nsIn K mainGlobals "are_worths" = some (some (.ref f4))) (l4 : K.lookup f4 = some ⟨oc4, od4, .func (PySem.W.fnOf "are_worths" "are_worths" (defArgs s_are_worths) (defBody s_are_worths) (defScope s_are_worths) .none kV4 dc4 pm4 an4 cd4 ct4), sl4⟩) (c4 : PySem.W.codeIn K cd4 "are_worths" = true) (k4 : PySem.W.keepIn K (.ref f4) = true)
    (a5 : PySem.W.nsIn K mainGlobals "is_content" = some (some (.ref f5))) (l5 : K.lookup f5 = some ⟨oc5, od5, .func (PySem.W.fnOf "is_content" "is_content" (defArgs s_is_content) (defBody s_is_content) (defScope s_is_content) .none kV5 dc5 pm5 an5 cd5 ct5), sl5⟩) (c5 : PySem.W.codeIn K cd5 "is_content" = true) (k5 : PySem.W.keepIn K (.ref f5) = true)
    (a6 : PySem.W.nsIn K mainGlobals "is_step" = some (some (.ref f6))) (l6 : K.lookup f6 = some ⟨oc6, od6, .func (PySem.W.fnOf "is_step" "is_step" (defArgs s_is_step) (defBody s_is_step) (defScope s_is_step) .none kV6 dc6 pm6 an6 cd6 ct6), sl6⟩) (c6 : PySem.W.codeIn K cd6 "is_step" = true) (k6 : PySem.W.keepIn K (.ref f6) = true)
    (a7 : PySem.W.nsIn K mainGlobals "_broken" = some (some (.ref f7))) (l7 : K.lookup f7 = some ⟨oc7, od7, .func (PySem.W.fnOf "_broken" "_broken" (defArgs s_broken) (defBody s_broken) (defScope s_broken) .none kV7 dc7 pm7 an7 cd7 ct7), sl7⟩) (c7 : PySem.W.codeIn K cd7 "_broken" = true) (k7 : PySem.W.keepIn K (.ref f7) = true)
    (a8 : PySem.W.nsIn K mainGlobals "_pieces_of" = some (some (.ref f8))) (l8 : K.lookup f8 = some ⟨oc8, od8, .func (PySem.W.fnOf "_pieces_of" "_pieces_of" (defArgs s_pieces_of) (defBody s_pieces_of) (defScope s_pieces_of) .none kV8 dc8 pm8 an8 cd8 ct8), sl8⟩) (c8 : PySem.W.codeIn K cd8 "_pieces_of" = true) (k8 : PySem.W.keepIn K (.ref f8) = true)
    (a9 : PySem.W.nsIn K mainGlobals "is_room" = some (some (.ref f9))) (l9 : K.lookup f9 = some ⟨oc9, od9, .func (PySem.W.fnOf "is_room" "is_room" (defArgs s_is_room) (defBody s_is_room) (defScope s_is_room) .none kV9 dc9 pm9 an9 cd9 ct9), sl9⟩) (c9 : PySem.W.codeIn K cd9 "is_room" = true) (k9 : PySem.W.keepIn K (.ref f9) = true)
    (a10 : PySem.W.nsIn K mainGlobals "are_steps" = some (some (.ref f10))) (l10 : K.lookup f10 = some ⟨oc10, od10, .func (PySem.W.fnOf "are_steps" "are_steps" (defArgs s_are_steps) (defBody s_are_steps) (defScope s_are_steps) .none kV10 dc10 pm10 an10 cd10 ct10), sl10⟩) (c10 : PySem.W.codeIn K cd10 "are_steps" = true) (k10 : PySem.W.keepIn K (.ref f10) = true)
    (a11 : PySem.W.nsIn K mainGlobals "_epochs_of" = some (some (.ref f11))) (l11 : K.lookup f11 = some ⟨oc11, od11, .func (PySem.W.fnOf "_epochs_of" "_epochs_of" (defArgs s_epochs_of) (defBody s_epochs_of) (defScope s_epochs_of) .none kV11 dc11 pm11 an11 cd11 ct11), sl11⟩) (c11 : PySem.W.codeIn K cd11 "_epochs_of" = true) (k11 : PySem.W.keepIn K (.ref f11) = true)
    (a12 : PySem.W.nsIn K mainGlobals "_law_pen" = some (some (.ref f12))) (l12 : K.lookup f12 = some ⟨oc12, od12, .func (PySem.W.fnOf "_law_pen" "_law_pen" (defArgs s_l_pen) (defBody s_l_pen) (defScope s_l_pen) .none kV12 dc12 pm12 an12 cd12 ct12), sl12⟩) (c12 : PySem.W.codeIn K cd12 "_law_pen" = true) (k12 : PySem.W.keepIn K (.ref f12) = true)
    (a13 : PySem.W.nsIn K mainGlobals "_law_next" = some (some (.ref f13))) (l13 : K.lookup f13 = some ⟨oc13, od13, .func (PySem.W.fnOf "_law_next" "_law_next" (defArgs s_l_next) (defBody s_l_next) (defScope s_l_next) .none kV13 dc13 pm13 an13 cd13 ct13), sl13⟩) (c13 : PySem.W.codeIn K cd13 "_law_next" = true) (k13 : PySem.W.keepIn K (.ref f13) = true)
    (a14 : PySem.W.nsIn K mainGlobals "_law_draw" = some (some (.ref f14))) (l14 : K.lookup f14 = some ⟨oc14, od14, .func (PySem.W.fnOf "_law_draw" "_law_draw" (defArgs s_l_draw) (defBody s_l_draw) (defScope s_l_draw) .none kV14 dc14 pm14 an14 cd14 ct14), sl14⟩) (c14 : PySem.W.codeIn K cd14 "_law_draw" = true) (k14 : PySem.W.keepIn K (.ref f14) = true)
    (a15 : PySem.W.nsIn K mainGlobals "_law_split" = some (some (.ref f15))) (l15 : K.lookup f15 = some ⟨oc15, od15, .func (PySem.W.fnOf "_law_split" "_law_split" (defArgs s_l_split) (defBody s_l_split) (defScope s_l_split) .none kV15 dc15 pm15 an15 cd15 ct15), sl15⟩) (c15 : PySem.W.codeIn K cd15 "_law_split" = true) (k15 : PySem.W.keepIn K (.ref f15) = true)
    (a16 : PySem.W.nsIn K mainGlobals "_law_parts" = some (some (.ref f16))) (l16 : K.lookup f16 = some ⟨oc16, od16, .func (PySem.W.fnOf "_law_parts" "_law_parts" (defArgs s_l_parts) (defBody s_l_parts) (defScope s_l_parts) .none kV16 dc16 pm16 an16 cd16 ct16), sl16⟩) (c16 : PySem.W.codeIn K cd16 "_law_parts" = true) (k16 : PySem.W.keepIn K (.ref f16) = true)
    (a17 : PySem.W.nsIn K mainGlobals "_law_write" = some (some (.ref f17))) (l17 : K.lookup f17 = some ⟨oc17, od17, .func (PySem.W.fnOf "_law_write" "_law_write" (defArgs s_l_write) (defBody s_l_write) (defScope s_l_write) .none kV17 dc17 pm17 an17 cd17 ct17), sl17⟩) (c17 : PySem.W.codeIn K cd17 "_law_write" = true) (k17 : PySem.W.keepIn K (.ref f17) = true)
    (a18 : PySem.W.nsIn K mainGlobals "_law_drawn" = some (some (.ref f18))) (l18 : K.lookup f18 = some ⟨oc18, od18, .func (PySem.W.fnOf "_law_drawn" "_law_drawn" (defArgs s_l_drawn) (defBody s_l_drawn) (defScope s_l_drawn) .none kV18 dc18 pm18 an18 cd18 ct18), sl18⟩) (c18 : PySem.W.codeIn K cd18 "_law_drawn" = true) (k18 : PySem.W.keepIn K (.ref f18) = true)
    (a19 : PySem.W.nsIn K mainGlobals "_law_log" = some (some (.ref f19))) (l19 : K.lookup f19 = some ⟨oc19, od19, .func (PySem.W.fnOf "_law_log" "_law_log" (defArgs s_l_log) (defBody s_l_log) (defScope s_l_log) .none kV19 dc19 pm19 an19 cd19 ct19), sl19⟩) (c19 : PySem.W.codeIn K cd19 "_law_log" = true) (k19 : PySem.W.keepIn K (.ref f19) = true)
    (a20 : PySem.W.nsIn K mainGlobals "_law_copy" = some (some (.ref f20))) (l20 : K.lookup f20 = some ⟨oc20, od20, .func (PySem.W.fnOf "_law_copy" "_law_copy" (defArgs s_l_copy) (defBody s_l_copy) (defScope s_l_copy) .none kV20 dc20 pm20 an20 cd20 ct20), sl20⟩) (c20 : PySem.W.codeIn K cd20 "_law_copy" = true) (k20 : PySem.W.keepIn K (.ref f20) = true)
    (a21 : PySem.W.nsIn K mainGlobals "_law_plan" = some (some (.ref f21))) (l21 : K.lookup f21 = some ⟨oc21, od21, .func (PySem.W.fnOf "_law_plan" "_law_plan" (defArgs s_l_plan) (defBody s_l_plan) (defScope s_l_plan) .none kV21 dc21 pm21 an21 cd21 ct21), sl21⟩) (c21 : PySem.W.codeIn K cd21 "_law_plan" = true) (k21 : PySem.W.keepIn K (.ref f21) = true)
    (a22 : PySem.W.nsIn K mainGlobals "_law_plan_of" = some (some (.ref f22))) (l22 : K.lookup f22 = some ⟨oc22, od22, .func (PySem.W.fnOf "_law_plan_of" "_law_plan_of" (defArgs s_l_plan_of) (defBody s_l_plan_of) (defScope s_l_plan_of) .none kV22 dc22 pm22 an22 cd22 ct22), sl22⟩) (c22 : PySem.W.codeIn K cd22 "_law_plan_of" = true) (k22 : PySem.W.keepIn K (.ref f22) = true)
    (a23 : PySem.W.nsIn K mainGlobals "_law_ranks" = some (some (.ref f23))) (l23 : K.lookup f23 = some ⟨oc23, od23, .func (PySem.W.fnOf "_law_ranks" "_law_ranks" (defArgs s_l_ranks) (defBody s_l_ranks) (defScope s_l_ranks) .none kV23 dc23 pm23 an23 cd23 ct23), sl23⟩) (c23 : PySem.W.codeIn K cd23 "_law_ranks" = true) (k23 : PySem.W.keepIn K (.ref f23) = true)
    (a24 : PySem.W.nsIn K mainGlobals "piece_epochs" = some (some (.ref f24))) (l24 : K.lookup f24 = some ⟨oc24, od24, .func (PySem.W.fnOf "piece_epochs" "piece_epochs" (defArgs s_piece_epochs) (defBody s_piece_epochs) (defScope s_piece_epochs) .none kV24 dc24 pm24 an24 cd24 ct24), sl24⟩) (c24 : PySem.W.codeIn K cd24 "piece_epochs" = true) (k24 : PySem.W.keepIn K (.ref f24) = true)
    (a25 : PySem.W.nsIn K mainGlobals "_law_nexts" = some (some (.ref f25))) (l25 : K.lookup f25 = some ⟨oc25, od25, .func (PySem.W.fnOf "_law_nexts" "_law_nexts" (defArgs s_l_nexts) (defBody s_l_nexts) (defScope s_l_nexts) .none kV25 dc25 pm25 an25 cd25 ct25), sl25⟩) (c25 : PySem.W.codeIn K cd25 "_law_nexts" = true) (k25 : PySem.W.keepIn K (.ref f25) = true)
    (a26 : PySem.W.nsIn K mainGlobals "_law_fall" = some (some (.ref f26))) (l26 : K.lookup f26 = some ⟨oc26, od26, .func (PySem.W.fnOf "_law_fall" "_law_fall" (defArgs s_l_fall) (defBody s_l_fall) (defScope s_l_fall) .none kV26 dc26 pm26 an26 cd26 ct26), sl26⟩) (c26 : PySem.W.codeIn K cd26 "_law_fall" = true) (k26 : PySem.W.keepIn K (.ref f26) = true)
    (a27 : PySem.W.nsIn K mainGlobals "mask_of" = some (some (.ref f27))) (l27 : K.lookup f27 = some ⟨oc27, od27, .func (PySem.W.fnOf "mask_of" "mask_of" (defArgs s_mask_of) (defBody s_mask_of) (defScope s_mask_of) .none kV27 dc27 pm27 an27 cd27 ct27), sl27⟩) (c27 : PySem.W.codeIn K cd27 "mask_of" = true) (k27 : PySem.W.keepIn K (.ref f27) = true)
    (a28 : PySem.W.nsIn K mainGlobals "is_in" = some (some (.ref f28))) (l28 : K.lookup f28 = some ⟨oc28, od28, .func (PySem.W.fnOf "is_in" "is_in" (defArgs s_is_in) (defBody s_is_in) (defScope s_is_in) .none kV28 dc28 pm28 an28 cd28 ct28), sl28⟩) (c28 : PySem.W.codeIn K cd28 "is_in" = true) (k28 : PySem.W.keepIn K (.ref f28) = true)
    (a29 : PySem.W.nsIn K mainGlobals "is_ascending" = some (some (.ref f29))) (l29 : K.lookup f29 = some ⟨oc29, od29, .func (PySem.W.fnOf "is_ascending" "is_ascending" (defArgs s_is_ascending) (defBody s_is_ascending) (defScope s_is_ascending) .none kV29 dc29 pm29 an29 cd29 ct29), sl29⟩) (c29 : PySem.W.codeIn K cd29 "is_ascending" = true) (k29 : PySem.W.keepIn K (.ref f29) = true)
    (a30 : PySem.W.nsIn K mainGlobals "claimed_there" = some (some (.ref f30))) (l30 : K.lookup f30 = some ⟨oc30, od30, .func (PySem.W.fnOf "claimed_there" "claimed_there" (defArgs s_claimed_there) (defBody s_claimed_there) (defScope s_claimed_there) .none kV30 dc30 pm30 an30 cd30 ct30), sl30⟩) (c30 : PySem.W.codeIn K cd30 "claimed_there" = true) (k30 : PySem.W.keepIn K (.ref f30) = true)
    (a31 : PySem.W.nsIn K mainGlobals "later_pieces" = some (some (.ref f31))) (l31 : K.lookup f31 = some ⟨oc31, od31, .func (PySem.W.fnOf "later_pieces" "later_pieces" (defArgs s_later_pieces) (defBody s_later_pieces) (defScope s_later_pieces) .none kV31 dc31 pm31 an31 cd31 ct31), sl31⟩) (c31 : PySem.W.codeIn K cd31 "later_pieces" = true) (k31 : PySem.W.keepIn K (.ref f31) = true)
    (a32 : PySem.W.nsIn K mainGlobals "misplaced_in" = some (some (.ref f32))) (l32 : K.lookup f32 = some ⟨oc32, od32, .func (PySem.W.fnOf "misplaced_in" "misplaced_in" (defArgs s_misplaced_in) (defBody s_misplaced_in) (defScope s_misplaced_in) .none kV32 dc32 pm32 an32 cd32 ct32), sl32⟩) (c32 : PySem.W.codeIn K cd32 "misplaced_in" = true) (k32 : PySem.W.keepIn K (.ref f32) = true)
    (a33 : PySem.W.nsIn K mainGlobals "are_let" = some (some (.ref f33))) (l33 : K.lookup f33 = some ⟨oc33, od33, .func (PySem.W.fnOf "are_let" "are_let" (defArgs s_are_let) (defBody s_are_let) (defScope s_are_let) .none kV33 dc33 pm33 an33 cd33 ct33), sl33⟩) (c33 : PySem.W.codeIn K cd33 "are_let" = true) (k33 : PySem.W.keepIn K (.ref f33) = true)
    (a34 : PySem.W.nsIn K mainGlobals "is_pattern" = some (some (.ref f34))) (l34 : K.lookup f34 = some ⟨oc34, od34, .func (PySem.W.fnOf "is_pattern" "is_pattern" (defArgs s_is_pattern) (defBody s_is_pattern) (defScope s_is_pattern) .none kV34 dc34 pm34 an34 cd34 ct34), sl34⟩) (c34 : PySem.W.codeIn K cd34 "is_pattern" = true) (k34 : PySem.W.keepIn K (.ref f34) = true)
    (a35 : PySem.W.nsIn K mainGlobals "behind_piece" = some (some (.ref f35))) (l35 : K.lookup f35 = some ⟨oc35, od35, .func (PySem.W.fnOf "behind_piece" "behind_piece" (defArgs s_behind_piece) (defBody s_behind_piece) (defScope s_behind_piece) .none kV35 dc35 pm35 an35 cd35 ct35), sl35⟩) (c35 : PySem.W.codeIn K cd35 "behind_piece" = true) (k35 : PySem.W.keepIn K (.ref f35) = true)
    (a36 : PySem.W.nsIn K mainGlobals "overwritten" = some (some (.ref f36))) (l36 : K.lookup f36 = some ⟨oc36, od36, .func (PySem.W.fnOf "overwritten" "overwritten" (defArgs s_overwritten) (defBody s_overwritten) (defScope s_overwritten) .none kV36 dc36 pm36 an36 cd36 ct36), sl36⟩) (c36 : PySem.W.codeIn K cd36 "overwritten" = true) (k36 : PySem.W.keepIn K (.ref f36) = true)
    (a37 : PySem.W.nsIn K mainGlobals "_law_left" = some (some (.ref f37))) (l37 : K.lookup f37 = some ⟨oc37, od37, .func (PySem.W.fnOf "_law_left" "_law_left" (defArgs s_l_left) (defBody s_l_left) (defScope s_l_left) .none kV37 dc37 pm37 an37 cd37 ct37), sl37⟩) (c37 : PySem.W.codeIn K cd37 "_law_left" = true) (k37 : PySem.W.keepIn K (.ref f37) = true)
    (a38 : PySem.W.nsIn K mainGlobals "may_begin" = some (some (.ref f38))) (l38 : K.lookup f38 = some ⟨oc38, od38, .func (PySem.W.fnOf "may_begin" "may_begin" (defArgs s_may_begin) (defBody s_may_begin) (defScope s_may_begin) .none kV38 dc38 pm38 an38 cd38 ct38), sl38⟩) (c38 : PySem.W.codeIn K cd38 "may_begin" = true) (k38 : PySem.W.keepIn K (.ref f38) = true)
    (a39 : PySem.W.nsIn K mainGlobals "last_epoch" = some (some (.ref f39))) (l39 : K.lookup f39 = some ⟨oc39, od39, .func (PySem.W.fnOf "last_epoch" "last_epoch" (defArgs s_last_epoch) (defBody s_last_epoch) (defScope s_last_epoch) .none kV39 dc39 pm39 an39 cd39 ct39), sl39⟩) (c39 : PySem.W.codeIn K cd39 "last_epoch" = true) (k39 : PySem.W.keepIn K (.ref f39) = true)
    (a40 : PySem.W.nsIn K mainGlobals "_law_some" = some (some (.ref f40))) (l40 : K.lookup f40 = some ⟨oc40, od40, .func (PySem.W.fnOf "_law_some" "_law_some" (defArgs s_l_some) (defBody s_l_some) (defScope s_l_some) .none kV40 dc40 pm40 an40 cd40 ct40), sl40⟩) (c40 : PySem.W.codeIn K cd40 "_law_some" = true) (k40 : PySem.W.keepIn K (.ref f40) = true)
    (a41 : PySem.W.nsIn K mainGlobals "_law_pattern" = some (some (.ref f41))) (l41 : K.lookup f41 = some ⟨oc41, od41, .func (PySem.W.fnOf "_law_pattern" "_law_pattern" (defArgs s_l_pattern) (defBody s_l_pattern) (defScope s_l_pattern) .none kV41 dc41 pm41 an41 cd41 ct41), sl41⟩) (c41 : PySem.W.codeIn K cd41 "_law_pattern" = true) (k41 : PySem.W.keepIn K (.ref f41) = true)
    (a42 : PySem.W.nsIn K mainGlobals "_least_in" = some (some (.ref f42))) (l42 : K.lookup f42 = some ⟨oc42, od42, .func (PySem.W.fnOf "_least_in" "_least_in" (defArgs s_least_in) (defBody s_least_in) (defScope s_least_in) .none kV42 dc42 pm42 an42 cd42 ct42), sl42⟩) (c42 : PySem.W.codeIn K cd42 "_least_in" = true) (k42 : PySem.W.keepIn K (.ref f42) = true)
    (a43 : PySem.W.nsIn K mainGlobals "_cells_of" = some (some (.ref f43))) (l43 : K.lookup f43 = some ⟨oc43, od43, .func (PySem.W.fnOf "_cells_of" "_cells_of" (defArgs s_cells_of) (defBody s_cells_of) (defScope s_cells_of) .none kV43 dc43 pm43 an43 cd43 ct43), sl43⟩) (c43 : PySem.W.codeIn K cd43 "_cells_of" = true) (k43 : PySem.W.keepIn K (.ref f43) = true)
    (a44 : PySem.W.nsIn K mainGlobals "_spoiled_by" = some (some (.ref f44))) (l44 : K.lookup f44 = some ⟨oc44, od44, .func (PySem.W.fnOf "_spoiled_by" "_spoiled_by" (defArgs s_spoiled_by) (defBody s_spoiled_by) (defScope s_spoiled_by) .none kV44 dc44 pm44 an44 cd44 ct44), sl44⟩) (c44 : PySem.W.codeIn K cd44 "_spoiled_by" = true) (k44 : PySem.W.keepIn K (.ref f44) = true)
    (a45 : PySem.W.nsIn K mainGlobals "_place" = some (some (.ref f45))) (l45 : K.lookup f45 = some ⟨oc45, od45, .func (PySem.W.fnOf "_place" "_place" (defArgs s_place) (defBody s_place) (defScope s_place) .none kV45 dc45 pm45 an45 cd45 ct45), sl45⟩) (c45 : PySem.W.codeIn K cd45 "_place" = true) (k45 : PySem.W.keepIn K (.ref f45) = true)
    (a46 : PySem.W.nsIn K mainGlobals "_go_back" = some (some (.ref f46))) (l46 : K.lookup f46 = some ⟨oc46, od46, .func (PySem.W.fnOf "_go_back" "_go_back" (defArgs s_go_back) (defBody s_go_back) (defScope s_go_back) .none kV46 dc46 pm46 an46 cd46 ct46), sl46⟩) (c46 : PySem.W.codeIn K cd46 "_go_back" = true) (k46 : PySem.W.keepIn K (.ref f46) = true)
    (a47 : PySem.W.nsIn K mainGlobals "fall_behind" = some (some (.ref f47))) (l47 : K.lookup f47 = some ⟨oc47, od47, .func (PySem.W.fnOf "fall_behind" "fall_behind" (defArgs s_fall_behind) (defBody s_fall_behind) (defScope s_fall_behind) .none kV47 dc47 pm47 an47 cd47 ct47), sl47⟩) (c47 : PySem.W.codeIn K cd47 "fall_behind" = true) (k47 : PySem.W.keepIn K (.ref f47) = true)
    (a48 : PySem.W.nsIn K mainGlobals "does_harm" = some (some (.ref f48))) (l48 : K.lookup f48 = some ⟨oc48, od48, .func (PySem.W.fnOf "does_harm" "does_harm" (defArgs s_does_harm) (defBody s_does_harm) (defScope s_does_harm) .none kV48 dc48 pm48 an48 cd48 ct48), sl48⟩) (c48 : PySem.W.codeIn K cd48 "does_harm" = true) (k48 : PySem.W.keepIn K (.ref f48) = true)
    (a49 : PySem.W.nsIn K mainGlobals "are_guards" = some (some (.ref f49))) (l49 : K.lookup f49 = some ⟨oc49, od49, .func (PySem.W.fnOf "are_guards" "are_guards" (defArgs s_are_guards) (defBody s_are_guards) (defScope s_are_guards) .none kV49 dc49 pm49 an49 cd49 ct49), sl49⟩) (c49 : PySem.W.codeIn K cd49 "are_guards" = true) (k49 : PySem.W.keepIn K (.ref f49) = true)
    (a50 : PySem.W.nsIn K mainGlobals "check_guards" = some (some (.ref f50))) (l50 : K.lookup f50 = some ⟨oc50, od50, .func (PySem.W.fnOf "check_guards" "check_guards" (defArgs s_check_guards) (defBody s_check_guards) (defScope s_check_guards) .none kV50 dc50 pm50 an50 cd50 ct50), sl50⟩) (c50 : PySem.W.codeIn K cd50 "check_guards" = true) (k50 : PySem.W.keepIn K (.ref f50) = true)
    (a51 : PySem.W.nsIn K mainGlobals "fall_leaving" = some (some (.ref f51))) (l51 : K.lookup f51 = some ⟨oc51, od51, .func (PySem.W.fnOf "fall_leaving" "fall_leaving" (defArgs s_fall_leaving) (defBody s_fall_leaving) (defScope s_fall_leaving) .none kV51 dc51 pm51 an51 cd51 ct51), sl51⟩) (c51 : PySem.W.codeIn K cd51 "fall_leaving" = true) (k51 : PySem.W.keepIn K (.ref f51) = true)
    (a52 : PySem.W.nsIn K mainGlobals "harm_to" = some (some (.ref f52))) (l52 : K.lookup f52 = some ⟨oc52, od52, .func (PySem.W.fnOf "harm_to" "harm_to" (defArgs s_harm_to) (defBody s_harm_to) (defScope s_harm_to) .none kV52 dc52 pm52 an52 cd52 ct52), sl52⟩) (c52 : PySem.W.codeIn K cd52 "harm_to" = true) (k52 : PySem.W.keepIn K (.ref f52) = true)
    (a53 : PySem.W.nsIn K mainGlobals "harm" = some (some (.ref f53))) (l53 : K.lookup f53 = some ⟨oc53, od53, .func (PySem.W.fnOf "harm" "harm" (defArgs s_harm) (defBody s_harm) (defScope s_harm) .none kV53 dc53 pm53 an53 cd53 ct53), sl53⟩) (c53 : PySem.W.codeIn K cd53 "harm" = true) (k53 : PySem.W.keepIn K (.ref f53) = true)
    (a54 : PySem.W.nsIn K mainGlobals "is_harm" = some (some (.ref f54))) (l54 : K.lookup f54 = some ⟨oc54, od54, .func (PySem.W.fnOf "is_harm" "is_harm" (defArgs s_is_harm) (defBody s_is_harm) (defScope s_is_harm) .none kV54 dc54 pm54 an54 cd54 ct54), sl54⟩) (c54 : PySem.W.codeIn K cd54 "is_harm" = true) (k54 : PySem.W.keepIn K (.ref f54) = true)
    (a55 : PySem.W.nsIn K mainGlobals "_law_bad_guards" = some (some (.ref f55))) (l55 : K.lookup f55 = some ⟨oc55, od55, .func (PySem.W.fnOf "_law_bad_guards" "_law_bad_guards" (defArgs s_l_bad_guards) (defBody s_l_bad_guards) (defScope s_l_bad_guards) .none kV55 dc55 pm55 an55 cd55 ct55), sl55⟩) (c55 : PySem.W.codeIn K cd55 "_law_bad_guards" = true) (k55 : PySem.W.keepIn K (.ref f55) = true)
    (a56 : PySem.W.nsIn K mainGlobals "_law_error" = some (some (.ref f56))) (l56 : K.lookup f56 = some ⟨oc56, od56, .func (PySem.W.fnOf "_law_error" "_law_error" (defArgs s_l_error) (defBody s_l_error) (defScope s_l_error) .none kV56 dc56 pm56 an56 cd56 ct56), sl56⟩) (c56 : PySem.W.codeIn K cd56 "_law_error" = true) (k56 : PySem.W.keepIn K (.ref f56) = true)
    (a57 : PySem.W.nsIn K mainGlobals "law" = some (some (.ref f57))) (l57 : K.lookup f57 = some ⟨oc57, od57, .func (PySem.W.fnOf "law" "law" (defArgs s_law) (defBody s_law) (defScope s_law) .none kV57 dc57 pm57 an57 cd57 ct57), sl57⟩) (c57 : PySem.W.codeIn K cd57 "law" = true) (k57 : PySem.W.keepIn K (.ref f57) = true)
    (aC : PySem.W.nsIn K mainGlobals "Plan" = some (some (.ref C)))
    (a58 : PySem.W.findIn K (.ref C) "__init__" = some (some (.ref f58))) (i58 : PySem.W.isFn K (.ref f58) = true) (l58 : K.lookup f58 = some ⟨oc58, od58, .func (PySem.W.fnOf "__init__" "Plan.__init__" (defArgs s_Plan___init) (defBody s_Plan___init) (defScope s_Plan___init) .none kV58 dc58 pm58 an58 cd58 ct58), sl58⟩) (c58 : PySem.W.codeIn K cd58 "Plan.__init__" = true) (k58 : PySem.W.keepIn K (.ref f58) = true)
    (a59 : PySem.W.findIn K (.ref C) "__eq__" = some (some (.ref f59))) (i59 : PySem.W.isFn K (.ref f59) = true) (l59 : K.lookup f59 = some ⟨oc59, od59, .func (PySem.W.fnOf "__eq__" "Plan.__eq__" (defArgs s_Plan___eq) (defBody s_Plan___eq) (defScope s_Plan___eq) .none kV59 dc59 pm59 an59 cd59 ct59), sl59⟩) (c59 : PySem.W.codeIn K cd59 "Plan.__eq__" = true) (k59 : PySem.W.keepIn K (.ref f59) = true)
    (a60 : PySem.W.findIn K (.ref C) "epoch_of" = some (some (.ref f60))) (i60 : PySem.W.isFn K (.ref f60) = true) (l60 : K.lookup f60 = some ⟨oc60, od60, .func (PySem.W.fnOf "epoch_of" "Plan.epoch_of" (defArgs s_Plan_epoch_of) (defBody s_Plan_epoch_of) (defScope s_Plan_epoch_of) .none kV60 dc60 pm60 an60 cd60 ct60), sl60⟩) (c60 : PySem.W.codeIn K cd60 "Plan.epoch_of" = true) (k60 : PySem.W.keepIn K (.ref f60) = true)
    (a61 : PySem.W.findIn K (.ref C) "base" = some (some (.ref pp61))) (i61 : PySem.W.specialIn K (.ref pp61) "__get__" = some (some (.builtin "property.__get__"))) (j61 : PySem.W.takesIn K (.ref pp61) = some true) (r61 : PySem.W.recIn K pp61 "property" = some (.ref f61 :: pr61)) (l61 : K.lookup f61 = some ⟨oc61, od61, .func (PySem.W.fnOf "base" "Plan.base" (defArgs s_Plan_base) (defBody s_Plan_base) (defScope s_Plan_base) .none kV61 dc61 pm61 an61 cd61 ct61), sl61⟩) (c61 : PySem.W.codeIn K cd61 "Plan.base" = true) (k61 : PySem.W.keepIn K (.ref f61) = true)
    (a62 : PySem.W.findIn K (.ref C) "width" = some (some (.ref pp62))) (i62 : PySem.W.specialIn K (.ref pp62) "__get__" = some (some (.builtin "property.__get__"))) (j62 : PySem.W.takesIn K (.ref pp62) = some true) (r62 : PySem.W.recIn K pp62 "property" = some (.ref f62 :: pr62)) (l62 : K.lookup f62 = some ⟨oc62, od62, .func (PySem.W.fnOf "width" "Plan.width" (defArgs s_Plan_width) (defBody s_Plan_width) (defScope s_Plan_width) .none kV62 dc62 pm62 an62 cd62 ct62), sl62⟩) (c62 : PySem.W.codeIn K cd62 "Plan.width" = true) (k62 : PySem.W.keepIn K (.ref f62) = true)
    (a63 : PySem.W.findIn K (.ref C) "steps" = some (some (.ref pp63))) (i63 : PySem.W.specialIn K (.ref pp63) "__get__" = some (some (.builtin "property.__get__"))) (j63 : PySem.W.takesIn K (.ref pp63) = some true) (r63 : PySem.W.recIn K pp63 "property" = some (.ref f63 :: pr63)) (l63 : K.lookup f63 = some ⟨oc63, od63, .func (PySem.W.fnOf "steps" "Plan.steps" (defArgs s_Plan_steps) (defBody s_Plan_steps) (defScope s_Plan_steps) .none kV63 dc63 pm63 an63 cd63 ct63), sl63⟩) (c63 : PySem.W.codeIn K cd63 "Plan.steps" = true) (k63 : PySem.W.keepIn K (.ref f63) = true)
    (a64 : PySem.W.findIn K (.ref C) "pieces" = some (some (.ref pp64))) (i64 : PySem.W.specialIn K (.ref pp64) "__get__" = some (some (.builtin "property.__get__"))) (j64 : PySem.W.takesIn K (.ref pp64) = some true) (r64 : PySem.W.recIn K pp64 "property" = some (.ref f64 :: pr64)) (l64 : K.lookup f64 = some ⟨oc64, od64, .func (PySem.W.fnOf "pieces" "Plan.pieces" (defArgs s_Plan_pieces) (defBody s_Plan_pieces) (defScope s_Plan_pieces) .none kV64 dc64 pm64 an64 cd64 ct64), sl64⟩) (c64 : PySem.W.codeIn K cd64 "Plan.pieces" = true) (k64 : PySem.W.keepIn K (.ref f64) = true)
    (a65 : PySem.W.findIn K (.ref C) "epochs" = some (some (.ref pp65))) (i65 : PySem.W.specialIn K (.ref pp65) "__get__" = some (some (.builtin "property.__get__"))) (j65 : PySem.W.takesIn K (.ref pp65) = some true) (r65 : PySem.W.recIn K pp65 "property" = some (.ref f65 :: pr65)) (l65 : K.lookup f65 = some ⟨oc65, od65, .func (PySem.W.fnOf "epochs" "Plan.epochs" (defArgs s_Plan_epochs) (defBody s_Plan_epochs) (defScope s_Plan_epochs) .none kV65 dc65 pm65 an65 cd65 ct65), sl65⟩) (c65 : PySem.W.codeIn K cd65 "Plan.epochs" = true) (k65 : PySem.W.keepIn K (.ref f65) = true)
    (pg : PySem.W.plainGet K C Str.empty = true) (hd : PySem.W.hasDictIn K C = true) (po : PySem.W.plainOver K C = true) (sa : PySem.W.findIn K (.ref C) "__setattr__" = some (some (.builtin "object.__setattr__"))) (mk : PySem.W.makesIn K C = true) (kc : PySem.W.keepIn K (.ref C) = true)
    (ic : PySem.W.isClsIn K C = true) (tc : PySem.W.typeIn K (.ref C) = some (.type "type")) (ha : PySem.W.findIn K (.ref C) "__class__" = some (some (.builtin "object.__class__"))) (hn : PySem.W.specialIn K (.builtin "object.__class__") "__get__" = some (some (.builtin "getset_descriptor.__get__"))) (htk : PySem.W.takesIn K (.builtin "object.__class__") = some true) (hm : PySem.W.mroIn K C (.type "object") = some true)
    (hne : PySem.W.findIn K (.ref C) "__ne__" = some (some (.builtin "object.__ne__")))
    (n0 : PySem.W.findIn K (.ref C) "_base" = some none)
    (n1 : PySem.W.findIn K (.ref C) "_width" = some none)
    (n2 : PySem.W.findIn K (.ref C) "_steps" = some none)
    (n3 : PySem.W.findIn K (.ref C) "_pieces" = some none)
    (n4 : PySem.W.findIn K (.ref C) "_piece_epochs" = some none)
    (n5 : PySem.W.findIn K (.ref C) "_epochs" = some none)
    (aCU : PySem.W.nsIn K mainGlobals "Hunt" = some (some (.ref U)))
    (a66 : PySem.W.findIn K (.ref U) "__init__" = some (some (.ref f66))) (i66 : PySem.W.isFn K (.ref f66) = true) (l66 : K.lookup f66 = some ⟨oc66, od66, .func (PySem.W.fnOf "__init__" "Hunt.__init__" (defArgs s_Hunt___init) (defBody s_Hunt___init) (defScope s_Hunt___init) .none kV66 dc66 pm66 an66 cd66 ct66), sl66⟩) (c66 : PySem.W.codeIn K cd66 "Hunt.__init__" = true) (k66 : PySem.W.keepIn K (.ref f66) = true)
    (a67 : PySem.W.findIn K (.ref U) "is_sure" = some (some (.ref f67))) (i67 : PySem.W.isFn K (.ref f67) = true) (l67 : K.lookup f67 = some ⟨oc67, od67, .func (PySem.W.fnOf "is_sure" "Hunt.is_sure" (defArgs s_Hunt_is_sure) (defBody s_Hunt_is_sure) (defScope s_Hunt_is_sure) .none kV67 dc67 pm67 an67 cd67 ct67), sl67⟩) (c67 : PySem.W.codeIn K cd67 "Hunt.is_sure" = true) (k67 : PySem.W.keepIn K (.ref f67) = true)
    (pgU : PySem.W.plainGet K U Str.empty = true)
    (hdU : PySem.W.hasDictIn K U = true)
    (poU : PySem.W.plainOver K U = true)
    (saU : PySem.W.findIn K (.ref U) "__setattr__" = some (some (.builtin "object.__setattr__")))
    (mkU : PySem.W.makesIn K U = true)
    (kcU : PySem.W.keepIn K (.ref U) = true)
    (nU0 : PySem.W.findIn K (.ref U) "asked" = some none)
    (nU1 : PySem.W.findIn K (.ref U) "touched" = some none)
    (nU2 : PySem.W.findIn K (.ref U) "spoiled" = some none)
    (nU3 : PySem.W.findIn K (.ref U) "spoiled_first" = some none)
    (nU4 : PySem.W.findIn K (.ref U) "own_epochs" = some none)
    (nU5 : PySem.W.findIn K (.ref U) "claimed" = some none)
    (nU6 : PySem.W.findIn K (.ref U) "later" = some none)
    (nU7 : PySem.W.findIn K (.ref U) "members" = some none)
    (gCF : PySem.W.nsIn K mainGlobals "FallError" = some (some (.ref CF)))
    (gCE : PySem.W.nsIn K mainGlobals "UnknownPiece" = some (some (.ref CE)))
    (gIF : PySem.W.nsIn K mainGlobals "InvalidFall" = some (some (.ref IF)))
    (gIP : PySem.W.nsIn K mainGlobals "InvalidPattern" = some (some (.ref IP)))
    (gIG : PySem.W.nsIn K mainGlobals "InvalidGuards" = some (some (.ref IG)))
    (yb : PySem.W.subIn K (.ref CF) (.type "BaseException") = some true)
    (yd : PySem.W.hasDictIn K CF = true)
    (yt : PySem.W.typeIn K (.ref CF) = some (.type "type"))
    (c1IF : PySem.W.isClsIn K IF = true)
    (c2IF : PySem.W.typeIn K (.ref IF) = some (.type "type"))
    (c1IP : PySem.W.isClsIn K IP = true)
    (c2IP : PySem.W.typeIn K (.ref IP) = some (.type "type"))
    (xxCE : PySem.W.excIn K CE [.type "ValueError", .type "Exception", .type "BaseException", .type "object"] "ValueError.__new__" = true)
    (xkCE : PySem.W.keepIn K (.ref CE) = true)
    (xbCE : PySem.W.subIn K (.ref CE) (.type "BaseException") = some true)
    (xtCE : PySem.W.typeIn K (.ref CE) = some (.type "type"))
    (xdCE : PySem.W.hasDictIn K CE = true)
    (xcCE : PySem.W.findIn K (.ref CE) "__class__" = some (some (.builtin "object.__class__")))
    (xmCE : PySem.W.mroIn K CE (.type "object") = some true)
    (xgaCE : PySem.W.findIn K (.ref CE) "__getattribute__" = some (some (.builtin "BaseException.__getattribute__")))
    (xgtCE : PySem.W.findIn K (.ref CE) "__getattr__" = some none)
    (yeCE : PySem.W.subIn K (.ref CE) (.ref CF) = some true)
    (xxIG : PySem.W.excIn K IG [.type "ValueError", .type "Exception", .type "BaseException", .type "object"] "ValueError.__new__" = true)
    (xkIG : PySem.W.keepIn K (.ref IG) = true)
    (xbIG : PySem.W.subIn K (.ref IG) (.type "BaseException") = some true)
    (xtIG : PySem.W.typeIn K (.ref IG) = some (.type "type"))
    (xdIG : PySem.W.hasDictIn K IG = true)
    (xcIG : PySem.W.findIn K (.ref IG) "__class__" = some (some (.builtin "object.__class__")))
    (xmIG : PySem.W.mroIn K IG (.type "object") = some true)
    (xgaIG : PySem.W.findIn K (.ref IG) "__getattribute__" = some (some (.builtin "BaseException.__getattribute__")))
    (xgtIG : PySem.W.findIn K (.ref IG) "__getattr__" = some none)
    (yeIG : PySem.W.subIn K (.ref IG) (.ref CF) = some true)
    (noIGIF : PySem.W.subIn K (.ref IG) (.ref IF) = some false)
    (neIGIF : (Value.ref IG == Value.ref IF) = false)
    (noIGIP : PySem.W.subIn K (.ref IG) (.ref IP) = some false)
    (neIGIP : (Value.ref IG == Value.ref IP) = false)
    (zr : PySem.W.nsIn K mainGlobals "repr" = some none)
    (z0 : PySem.W.nsIn K mainGlobals "len" = some none)
    (z1 : PySem.W.nsIn K mainGlobals "int" = some none)
    (z2 : PySem.W.nsIn K mainGlobals "list" = some none)
    (z3 : PySem.W.nsIn K mainGlobals "tuple" = some none)
    (z4 : PySem.W.nsIn K mainGlobals "range" = some none)
    (z5 : PySem.W.nsIn K mainGlobals "min" = some none)
    (z6 : PySem.W.nsIn K mainGlobals "all" = some none)
    (z7 : PySem.W.nsIn K mainGlobals "enumerate" = some none)
    (z8 : PySem.W.nsIn K mainGlobals "zip" = some none)
    (z9 : PySem.W.nsIn K mainGlobals "isinstance" = some none)
    (z10 : PySem.W.nsIn K mainGlobals "bool" = some none)
    (zs : PySem.W.nsIn K mainGlobals "set" = some none)
    (za : PySem.W.nsIn K mainGlobals "any" = some none)
    (zu : PySem.W.nsIn K mainGlobals "sum" = some none)
    (zo : PySem.W.nsIn K mainGlobals "sorted" = some none)
    (dict : PySem.W.nsIn K mainGlobals "dict" = some none)
    (reversed : PySem.W.nsIn K mainGlobals "reversed" = some none)
    (m0 : PySem.W.nsIn K mainGlobals "MOST_CELLS" = some (some (.int 24 tk0)))
    (m1 : PySem.W.nsIn K mainGlobals "MOST_STEPS" = some (some (.int 40 tk1)))
    (m2 : PySem.W.nsIn K mainGlobals "MOST_PIECES" = some (some (.int 40 tk2)))
    (BASEa : PySem.W.nsIn K mainGlobals "BASE" = some (some (.int (-1) tkBASEa)))
    (MOST_GUARDSa : PySem.W.nsIn K mainGlobals "MOST_GUARDS" = some (some (.int 99 tkMOST_GUARDSa)))
    (u0 : PySem.W.nsIn K mainGlobals "ALL_WORTHS" = some (some (.ref ta0))) (w0 : K.lookup ta0 = some ⟨.type "tuple", td0, .seq ti0 tn0, ts0⟩) (x0 : ti0.size ≤ sizeLine) (y0 : Vals (ivs [0, 1, 2, 3, 4, 5, 6, 7]) ti0.toList) :
    ∃ fd : FuncData, (∀ (s : Shared) (v : Value), BindsTo s fd ⟨[v], []⟩ [("_law_script", v)]) ∧ ∀ base : Heap, K.In base → base.Ns mainGlobals mg → FnG l.prog w K mg base 13 fa fd ["_law_script"] (sp_law K) := by
  have e := hfa.symm.trans (PySem.W.mg_of X G a57)
  cases e
  have T : Txt mg := ⟨PySem.W.mg_none_of X G z0, PySem.W.mg_none_of X G z1, PySem.W.mg_none_of X G z2, PySem.W.mg_none_of X G z3, PySem.W.mg_none_of X G z4, PySem.W.mg_none_of X G z5, PySem.W.mg_none_of X G z6, PySem.W.mg_none_of X G z7, PySem.W.mg_none_of X G z8, PySem.W.mg_none_of X G z9, PySem.W.mg_none_of X G z10⟩
  have CK : Cst K mg := ⟨⟨_, PySem.W.mg_of X G m0⟩, ⟨_, PySem.W.mg_of X G m1⟩, ⟨_, PySem.W.mg_of X G m2⟩, ⟨_, PySem.W.mg_of X G u0, fun H => .inr ⟨_, ti0, tn0, w0, rfl, rfl, x0, y0⟩⟩⟩
  have TC : PlanC K mg C := ⟨⟨pg, hd, po, sa⟩, n0, n1, n2, n3, n4, n5, PySem.W.mg_of X G aC, is_own, fun n hn => is_not hn ic tc, fun n hn => first_not hn, ha, hn, htk, hm⟩
  have F_Plan___init := fun_mk (st := s_Plan___init) l58 c58 k58
  have b_Plan___init := F_Plan___init.binds (ps := ["self", "base", "width", "steps"]) fun _ _ _ _ _ _ us hl => match us, hl with | [_, _, _, _], _ => rfl
  have M_Plan___init : Mk K C f58 := ⟨mk, a58, i58, kc⟩
  have F_Plan___eq := fun_mk (st := s_Plan___eq) l59 c59 k59
  have b_Plan___eq := F_Plan___eq.binds (ps := ["self", "other"]) fun _ _ _ _ _ _ us hl => match us, hl with | [_, _], _ => rfl
  have M_Plan___eq : Meth K C "__eq__" f59 := ⟨a59, i59, k59⟩
  have F_Plan_epoch_of := fun_mk (st := s_Plan_epoch_of) l60 c60 k60
  have b_Plan_epoch_of := F_Plan_epoch_of.binds (ps := ["self", "piece"]) fun _ _ _ _ _ _ us hl => match us, hl with | [_, _], _ => rfl
  have M_Plan_epoch_of : Meth K C "epoch_of" f60 := ⟨a60, i60, k60⟩
  have O : OwnEqC K C f59 := ⟨a59, i59, hne, hm⟩
  have TU : ObjC K mg "Hunt" U HN := ⟨⟨pgU, hdU, poU, saU⟩, (by unfold HN; intro x hx; simp only [List.mem_cons, List.not_mem_nil, or_false] at hx; rcases hx with rfl | rfl | rfl | rfl | rfl | rfl | rfl | rfl <;> assumption), PySem.W.mg_of X G aCU⟩
  have F_Hunt___init := fun_mk (st := s_Hunt___init) l66 c66 k66
  have b_Hunt___init := F_Hunt___init.binds (ps := ["self", "plan", "pattern", "claims", "begun"]) fun _ _ _ _ _ _ us hl => match us, hl with | [_, _, _, _, _], _ => rfl
  have M_Hunt___init : Mk K U f66 := ⟨mkU, a66, i66, kcU⟩
  have F_Hunt_is_sure := fun_mk (st := s_Hunt_is_sure) l67 c67 k67
  have b_Hunt_is_sure := F_Hunt_is_sure.binds (ps := ["self", "piece", "epoch"]) fun _ _ _ _ _ _ us hl => match us, hl with | [_, _, _], _ => rfl
  have M_Hunt_is_sure : Meth K U "is_sure" f67 := ⟨a67, i67, k67⟩
  have X_CE : ExcC K mg "UnknownPiece" CE := ⟨PySem.W.mg_of X G gCE, xxCE, xkCE, xbCE, xtCE⟩
  have I_CE : L2.ExcC K CE := ⟨xgaCE, xgtCE, xbCE, xdCE, xcCE, hn, htk, xmCE⟩
  have m_CE : PySem.W.exmOne K (.ref CE) (.ref CF) = some true := PySem.W.exm_ref yb yd yt yeCE
  have X_IG : ExcC K mg "InvalidGuards" IG := ⟨PySem.W.mg_of X G gIG, xxIG, xkIG, xbIG, xtIG⟩
  have I_IG : L2.ExcC K IG := ⟨xgaIG, xgtIG, xbIG, xdIG, xcIG, hn, htk, xmIG⟩
  have m_IG : PySem.W.exmOne K (.ref IG) (.ref CF) = some true := PySem.W.exm_ref yb yd yt yeIG
  have q_IG_IF : PySem.W.kitOne K (.ref IG) (.ref IF) = some false := is_no c1IF c2IF noIGIF neIGIF
  have q_IG_IP : PySem.W.kitOne K (.ref IG) (.ref IP) = some false := is_no c1IP c2IP noIGIP neIGIP
  refine ⟨PySem.W.fnOf "law" "law" (defArgs s_law) (defBody s_law) (defScope s_law) .none kV57 dc57 pm57 an57 cd57 ct57, fun s v => .of_eq rfl, fun base _ _ => ?_⟩
  have t_repr := PySem.W.mg_none_of X G zr
  have t_zs := PySem.W.mg_none_of X G zs
  have t_za := PySem.W.mg_none_of X G za
  have t_zu := PySem.W.mg_none_of X G zu
  have t_zo := PySem.W.mg_none_of X G zo
  have t_dict := PySem.W.mg_none_of X G dict
  have t_reversed := PySem.W.mg_none_of X G reversed
  have F_Plan_base := fun_mk (st := s_Plan_base) l61 c61 k61
  have P_base : PropC l.prog w K mg base C "base" (sp_p_base C) := ⟨pp61, f61, _, ⟨a61, i61, j61, _, r61⟩, ok_p_base F_Plan_base TC, F_Plan_base.binds (ps := ["self"]) fun _ _ _ _ _ _ us hl => match us, hl with | [_], _ => rfl⟩
  have F_Plan_width := fun_mk (st := s_Plan_width) l62 c62 k62
  have P_width : PropC l.prog w K mg base C "width" (sp_p_width C) := ⟨pp62, f62, _, ⟨a62, i62, j62, _, r62⟩, ok_p_width F_Plan_width TC, F_Plan_width.binds (ps := ["self"]) fun _ _ _ _ _ _ us hl => match us, hl with | [_], _ => rfl⟩
  have F_Plan_steps := fun_mk (st := s_Plan_steps) l63 c63 k63
  have P_steps : PropC l.prog w K mg base C "steps" (sp_p_steps C) := ⟨pp63, f63, _, ⟨a63, i63, j63, _, r63⟩, ok_p_steps F_Plan_steps T TC, F_Plan_steps.binds (ps := ["self"]) fun _ _ _ _ _ _ us hl => match us, hl with | [_], _ => rfl⟩
  have F_Plan_pieces := fun_mk (st := s_Plan_pieces) l64 c64 k64
  have P_pieces : PropC l.prog w K mg base C "pieces" (sp_p_pieces C) := ⟨pp64, f64, _, ⟨a64, i64, j64, _, r64⟩, ok_p_pieces F_Plan_pieces T TC, F_Plan_pieces.binds (ps := ["self"]) fun _ _ _ _ _ _ us hl => match us, hl with | [_], _ => rfl⟩
  have F_Plan_epochs := fun_mk (st := s_Plan_epochs) l65 c65 k65
  have P_epochs : PropC l.prog w K mg base C "epochs" (sp_p_epochs C) := ⟨pp65, f65, _, ⟨a65, i65, j65, _, r65⟩, ok_p_epochs F_Plan_epochs TC, F_Plan_epochs.binds (ps := ["self"]) fun _ _ _ _ _ _ us hl => match us, hl with | [_], _ => rfl⟩
  have F1 := fun_mk (st := s_is_integer) l1 c1 k1
  have c_is_integer : Cal l.prog w K mg base 1 "is_integer" ["thing"] (sp_is_integer K) := ⟨f1, _, ok_is_integer F1 T, PySem.W.mg_of X G a1, k1, F1.binds (ps := ["thing"]) fun _ _ _ _ _ _ us hl => match us, hl with | [_], _ => rfl⟩
  have F2 := fun_mk (st := s_is_index) l2 c2 k2
  have c_is_index : Cal l.prog w K mg base 2 "is_index" ["thing", "many"] (sp_is_index K) := ⟨f2, _, ok_is_index F2 T c_is_integer, PySem.W.mg_of X G a2, k2, F2.binds (ps := ["thing", "many"]) fun _ _ _ _ _ _ us hl => match us, hl with | [_, _], _ => rfl⟩
  have F3 := fun_mk (st := s_is_width) l3 c3 k3
  have c_is_width : Cal l.prog w K mg base 2 "is_width" ["thing"] (sp_is_width K) := ⟨f3, _, ok_is_width F3 T CK c_is_integer, PySem.W.mg_of X G a3, k3, F3.binds (ps := ["thing"]) fun _ _ _ _ _ _ us hl => match us, hl with | [_], _ => rfl⟩
  have F4 := fun_mk (st := s_are_worths) l4 c4 k4
  have c_are_worths : Cal l.prog w K mg base 3 "are_worths" ["thing"] (sp_are_worths K) := ⟨f4, _, ok_are_worths F4 T CK c_is_index, PySem.W.mg_of X G a4, k4, F4.binds (ps := ["thing"]) fun _ _ _ _ _ _ us hl => match us, hl with | [_], _ => rfl⟩
  have F5 := fun_mk (st := s_is_content) l5 c5 k5
  have c_is_content : Cal l.prog w K mg base 4 "is_content" ["thing"] (sp_is_content K) := ⟨f5, _, ok_is_content F5 T CK c_are_worths, PySem.W.mg_of X G a5, k5, F5.binds (ps := ["thing"]) fun _ _ _ _ _ _ us hl => match us, hl with | [_], _ => rfl⟩
  have F6 := fun_mk (st := s_is_step) l6 c6 k6
  have c_is_step : Cal l.prog w K mg base 4 "is_step" ["cells", "thing"] (sp_is_step K) := ⟨f6, _, ok_is_step F6 T c_is_index c_are_worths, PySem.W.mg_of X G a6, k6, F6.binds (ps := ["cells", "thing"]) fun _ _ _ _ _ _ us hl => match us, hl with | [_, _], _ => rfl⟩
  have F7 := fun_mk (st := s_broken) l7 c7 k7
  have c_broken : Cal l.prog w K mg base 1 "_broken" ["width", "index", "write"] sp_brokenX := ⟨f7, _, ok_brokenX F7 T, PySem.W.mg_of X G a7, k7, F7.binds (ps := ["width", "index", "write"]) fun _ _ _ _ _ _ us hl => match us, hl with | [_, _, _], _ => rfl⟩
  have F8 := fun_mk (st := s_pieces_of) l8 c8 k8
  have c_pieces_of : Cal l.prog w K mg base 2 "_pieces_of" ["width", "steps"] sp_piecesX := ⟨f8, _, ok_piecesX F8 T c_broken, PySem.W.mg_of X G a8, k8, F8.binds (ps := ["width", "steps"]) fun _ _ _ _ _ _ us hl => match us, hl with | [_, _], _ => rfl⟩
  have F9 := fun_mk (st := s_is_room) l9 c9 k9
  have c_is_room : Cal l.prog w K mg base 3 "is_room" ["width", "steps"] sp_roomX := ⟨f9, _, ok_roomX F9 T CK c_pieces_of, PySem.W.mg_of X G a9, k9, F9.binds (ps := ["width", "steps"]) fun _ _ _ _ _ _ us hl => match us, hl with | [_, _], _ => rfl⟩
  have F10 := fun_mk (st := s_are_steps) l10 c10 k10
  have c_are_steps : Cal l.prog w K mg base 5 "are_steps" ["cells", "width", "thing"] (sp_are_steps K sp_roomX) := ⟨f10, _, ok_are_steps F10 T c_is_step c_is_room, PySem.W.mg_of X G a10, k10, F10.binds (ps := ["cells", "width", "thing"]) fun _ _ _ _ _ _ us hl => match us, hl with | [_, _, _], _ => rfl⟩
  have F11 := fun_mk (st := s_epochs_of) l11 c11 k11
  have c_epochs_of : Cal l.prog w K mg base 1 "_epochs_of" ["steps"] sp_epochsX := ⟨f11, _, ok_epochsX F11 T, PySem.W.mg_of X G a11, k11, F11.binds (ps := ["steps"]) fun _ _ _ _ _ _ us hl => match us, hl with | [_], _ => rfl⟩
  have F12 := fun_mk (st := s_l_pen) l12 c12 k12
  have c_l_pen : Cal l.prog w K mg base 1 "_law_pen" ["_law_script"] (sp_pen K) := ⟨f12, _, ok_pen F12 T, PySem.W.mg_of X G a12, k12, F12.binds (ps := ["_law_script"]) fun _ _ _ _ _ _ us hl => match us, hl with | [_], _ => rfl⟩
  have F13 := fun_mk (st := s_l_next) l13 c13 k13
  have c_l_next : Cal l.prog w K mg base 1 "_law_next" ["_law_pen_here"] sp_next := ⟨f13, _, ok_next F13 T, PySem.W.mg_of X G a13, k13, F13.binds (ps := ["_law_pen_here"]) fun _ _ _ _ _ _ us hl => match us, hl with | [_], _ => rfl⟩
  have F14 := fun_mk (st := s_l_draw) l14 c14 k14
  have c_l_draw : Cal l.prog w K mg base 2 "_law_draw" ["_law_pen_here", "_law_under"] sp_draw := ⟨f14, _, ok_draw F14 T c_l_next, PySem.W.mg_of X G a14, k14, F14.binds (ps := ["_law_pen_here", "_law_under"]) fun _ _ _ _ _ _ us hl => match us, hl with | [_, _], _ => rfl⟩
  have F15 := fun_mk (st := s_l_split) l15 c15 k15
  have c_l_split : Cal l.prog w K mg base 1 "_law_split" ["_law_index", "_law_step_here", "_law_span_here"] sp_split := ⟨f15, _, ok_split F15 T, PySem.W.mg_of X G a15, k15, F15.binds (ps := ["_law_index", "_law_step_here", "_law_span_here"]) fun _ _ _ _ _ _ us hl => match us, hl with | [_, _, _], _ => rfl⟩
  have F16 := fun_mk (st := s_l_parts) l16 c16 k16
  have c_l_parts : Cal l.prog w K mg base 2 "_law_parts" ["_law_plan_here"] sp_partsX := ⟨f16, _, ok_partsX F16 T c_l_split, PySem.W.mg_of X G a16, k16, F16.binds (ps := ["_law_plan_here"]) fun _ _ _ _ _ _ us hl => match us, hl with | [_], _ => rfl⟩
  have F17 := fun_mk (st := s_l_write) l17 c17 k17
  have c_l_write : Cal l.prog w K mg base 3 "_law_write" ["_law_pen_here", "_law_many", "_law_kinds", "_law_longest_row"] sp_write := ⟨f17, _, ok_write F17 T c_l_draw, PySem.W.mg_of X G a17, k17, F17.binds (ps := ["_law_pen_here", "_law_many", "_law_kinds", "_law_longest_row"]) fun _ _ _ _ _ _ us hl => match us, hl with | [_, _, _, _], _ => rfl⟩
  have F18 := fun_mk (st := s_l_drawn) l18 c18 k18
  have c_l_drawn : Cal l.prog w K mg base 4 "_law_drawn" ["_law_pen_here", "_law_many", "_law_most", "_law_kinds"] sp_drawn := ⟨f18, _, ok_drawn F18 T c_l_draw c_l_parts c_l_write, PySem.W.mg_of X G a18, k18, F18.binds (ps := ["_law_pen_here", "_law_many", "_law_most", "_law_kinds"]) fun _ _ _ _ _ _ us hl => match us, hl with | [_, _, _, _], _ => rfl⟩
  have F19 := fun_mk (st := s_l_log) l19 c19 k19
  have c_l_log : Cal l.prog w K mg base 3 "_law_log" ["_law_pen_here", "_law_kinds"] sp_log := ⟨f19, _, ok_log F19 T c_l_draw, PySem.W.mg_of X G a19, k19, F19.binds (ps := ["_law_pen_here", "_law_kinds"]) fun _ _ _ _ _ _ us hl => match us, hl with | [_, _], _ => rfl⟩
  have F20 := fun_mk (st := s_l_copy) l20 c20 k20
  have c_l_copy : Cal l.prog w K mg base 3 "_law_copy" ["_law_pen_here", "_law_kinds"] sp_copy := ⟨f20, _, ok_copy F20 T c_l_draw, PySem.W.mg_of X G a20, k20, F20.binds (ps := ["_law_pen_here", "_law_kinds"]) fun _ _ _ _ _ _ us hl => match us, hl with | [_, _], _ => rfl⟩
  have F21 := fun_mk (st := s_l_plan) l21 c21 k21
  have c_l_plan : Cal l.prog w K mg base 5 "_law_plan" ["_law_pen_here", "_law_most"] sp_plan := ⟨f21, _, ok_plan F21 T c_l_draw c_l_log c_l_copy c_l_drawn, PySem.W.mg_of X G a21, k21, F21.binds (ps := ["_law_pen_here", "_law_most"]) fun _ _ _ _ _ _ us hl => match us, hl with | [_, _], _ => rfl⟩
  have G_Plan := ok_initX (P := l.prog) (w := w) (base := base) F_Plan___init T TC c_is_content c_is_width c_are_steps c_epochs_of c_pieces_of
  have G_eq := ok_eq (P := l.prog) (w := w) (base := base) F_Plan___eq T TC
  have G_eo := ok_epoch_of (P := l.prog) (w := w) (base := base) F_Plan_epoch_of T TC X_CE c_is_index
  have F22 := fun_mk (st := s_l_plan_of) l22 c22 k22
  have c_l_plan_of : Cal l.prog w K mg base 8 "_law_plan_of" ["_law_plan_here"] (sp_plan_of C) := ⟨f22, _, ok_plan_of F22 T TC M_Plan___init G_Plan b_Plan___init, PySem.W.mg_of X G a22, k22, F22.binds (ps := ["_law_plan_here"]) fun _ _ _ _ _ _ us hl => match us, hl with | [_], _ => rfl⟩
  have F23 := fun_mk (st := s_l_ranks) l23 c23 k23
  have c_l_ranks : Cal l.prog w K mg base 3 "_law_ranks" ["_law_plan_here"] sp_ranks := ⟨f23, _, ok_ranks F23 T c_l_parts, PySem.W.mg_of X G a23, k23, F23.binds (ps := ["_law_plan_here"]) fun _ _ _ _ _ _ us hl => match us, hl with | [_], _ => rfl⟩
  have F24 := fun_mk (st := s_piece_epochs) l24 c24 k24
  have c_piece_epochs : Cal l.prog w K mg base 4 "piece_epochs" ["plan"] (sp_pe C) := ⟨f24, _, ok_pe F24 T TC M_Plan_epoch_of G_eo b_Plan_epoch_of P_pieces, PySem.W.mg_of X G a24, k24, F24.binds (ps := ["plan"]) fun _ _ _ _ _ _ us hl => match us, hl with | [_], _ => rfl⟩
  have F25 := fun_mk (st := s_l_nexts) l25 c25 k25
  have c_l_nexts : Cal l.prog w K mg base 1 "_law_nexts" ["_law_ranks_here", "_law_some_here"] sp_nextsX := ⟨f25, _, ok_nexts F25 T, PySem.W.mg_of X G a25, k25, F25.binds (ps := ["_law_ranks_here", "_law_some_here"]) fun _ _ _ _ _ _ us hl => match us, hl with | [_, _], _ => rfl⟩
  have cw_l_nexts : Cal l.prog w K mg base 1 "_law_nexts" ["_law_ranks_here", "_law_some_here"] sp_nexts := by
    obtain ⟨f, fd, F, r⟩ := c_l_nexts.ex
    exact ⟨f, fd, weak_nexts F, r⟩
  have F26 := fun_mk (st := s_l_fall) l26 c26 k26
  have c_l_fall : Cal l.prog w K mg base 4 "_law_fall" ["_law_pen_here", "_law_plan_here"] sp_fall := ⟨f26, _, ok_fall F26 T c_l_draw c_l_ranks cw_l_nexts, PySem.W.mg_of X G a26, k26, F26.binds (ps := ["_law_pen_here", "_law_plan_here"]) fun _ _ _ _ _ _ us hl => match us, hl with | [_, _], _ => rfl⟩
  have F27 := fun_mk (st := s_mask_of) l27 c27 k27
  have c_mask_of : Cal l.prog w K mg base 1 "mask_of" ["members"] sp_maskN := ⟨f27, _, ok_maskN F27 T t_zu, PySem.W.mg_of X G a27, k27, F27.binds (ps := ["members"]) fun _ _ _ _ _ _ us hl => match us, hl with | [_], _ => rfl⟩
  have cw_mask_of : Cal l.prog w K mg base 1 "mask_of" ["members"] sp_mask := by
    obtain ⟨f, fd, F, r⟩ := c_mask_of.ex
    exact ⟨f, fd, weak_mask F, r⟩
  have F28 := fun_mk (st := s_is_in) l28 c28 k28
  have c_is_in : Cal l.prog w K mg base 1 "is_in" ["member", "mask"] sp_is_in := ⟨f28, _, ok_is_in F28 T, PySem.W.mg_of X G a28, k28, F28.binds (ps := ["member", "mask"]) fun _ _ _ _ _ _ us hl => match us, hl with | [_, _], _ => rfl⟩
  have F29 := fun_mk (st := s_is_ascending) l29 c29 k29
  have c_is_ascending : Cal l.prog w K mg base 1 "is_ascending" ["things"] sp_ascI := ⟨f29, _, ok_ascI F29 T, PySem.W.mg_of X G a29, k29, F29.binds (ps := ["things"]) fun _ _ _ _ _ _ us hl => match us, hl with | [_], _ => rfl⟩
  have c_ascP : Cal l.prog w K mg base 1 "is_ascending" ["things"] sp_ascP := ⟨f29, _, ok_ascP F29 T, PySem.W.mg_of X G a29, k29, F29.binds (ps := ["things"]) fun _ _ _ _ _ _ us hl => match us, hl with | [_], _ => rfl⟩
  have c_ascT : Cal l.prog w K mg base 1 "is_ascending" ["things"] sp_ascT := ⟨f29, _, ok_ascT F29 T, PySem.W.mg_of X G a29, k29, F29.binds (ps := ["things"]) fun _ _ _ _ _ _ us hl => match us, hl with | [_], _ => rfl⟩
  have F30 := fun_mk (st := s_claimed_there) l30 c30 k30
  have c_claimed_there : Cal l.prog w K mg base 1 "claimed_there" ["claims"] sp_claimed := ⟨f30, _, ok_claimed F30 T t_zs t_zo, PySem.W.mg_of X G a30, k30, F30.binds (ps := ["claims"]) fun _ _ _ _ _ _ us hl => match us, hl with | [_], _ => rfl⟩
  have F31 := fun_mk (st := s_later_pieces) l31 c31 k31
  have c_later_pieces : Cal l.prog w K mg base 5 "later_pieces" ["plan", "ahead"] (sp_later C) := ⟨f31, _, ok_later F31 T TC P_epochs c_piece_epochs cw_mask_of c_is_in, PySem.W.mg_of X G a31, k31, F31.binds (ps := ["plan", "ahead"]) fun _ _ _ _ _ _ us hl => match us, hl with | [_, _], _ => rfl⟩
  have F32 := fun_mk (st := s_misplaced_in) l32 c32 k32
  have c_misplaced_in : Cal l.prog w K mg base 4 "misplaced_in" ["plan", "claims", "epoch"] (sp_mis C) := ⟨f32, _, ok_mis F32 T TC M_Plan_epoch_of G_eo b_Plan_epoch_of c_claimed_there, PySem.W.mg_of X G a32, k32, F32.binds (ps := ["plan", "claims", "epoch"]) fun _ _ _ _ _ _ us hl => match us, hl with | [_, _, _], _ => rfl⟩
  have F33 := fun_mk (st := s_are_let) l33 c33 k33
  have c_are_let : Cal l.prog w K mg base 4 "are_let" ["thing"] (sp_let K) := ⟨f33, _, ok_let F33 T c_are_worths c_ascT, PySem.W.mg_of X G a33, k33, F33.binds (ps := ["thing"]) fun _ _ _ _ _ _ us hl => match us, hl with | [_], _ => rfl⟩
  have F34 := fun_mk (st := s_is_pattern) l34 c34 k34
  have c_is_pattern : Cal l.prog w K mg base 5 "is_pattern" ["cells", "thing"] (sp_is_pattern K) := ⟨f34, _, ok_is_pattern F34 T t_dict c_is_index c_are_let, PySem.W.mg_of X G a34, k34, F34.binds (ps := ["cells", "thing"]) fun _ _ _ _ _ _ us hl => match us, hl with | [_, _], _ => rfl⟩
  have F35 := fun_mk (st := s_behind_piece) l35 c35 k35
  have c_behind_piece : Cal l.prog w K mg base 1 "behind_piece" ["content", "piece"] sp_behind := ⟨f35, _, ok_behind F35 T, PySem.W.mg_of X G a35, k35, F35.binds (ps := ["content", "piece"]) fun _ _ _ _ _ _ us hl => match us, hl with | [_, _], _ => rfl⟩
  have F36 := fun_mk (st := s_overwritten) l36 c36 k36
  have c_overwritten : Cal l.prog w K mg base 3 "overwritten" ["plan", "fall"] (sp_over C) := ⟨f36, _, ok_over F36 T TC P_base P_pieces c_behind_piece, PySem.W.mg_of X G a36, k36, F36.binds (ps := ["plan", "fall"]) fun _ _ _ _ _ _ us hl => match us, hl with | [_, _], _ => rfl⟩
  have F37 := fun_mk (st := s_l_left) l37 c37 k37
  have c_l_left : Cal l.prog w K mg base 3 "_law_left" ["_law_plan_here", "_law_some_here"] sp_left := ⟨f37, _, ok_left F37 T c_l_parts, PySem.W.mg_of X G a37, k37, F37.binds (ps := ["_law_plan_here", "_law_some_here"]) fun _ _ _ _ _ _ us hl => match us, hl with | [_, _], _ => rfl⟩
  have F38 := fun_mk (st := s_may_begin) l38 c38 k38
  have c_may_begin : Cal l.prog w K mg base 1 "may_begin" ["claims", "fall"] sp_may := ⟨f38, _, ok_may F38 T t_za, PySem.W.mg_of X G a38, k38, F38.binds (ps := ["claims", "fall"]) fun _ _ _ _ _ _ us hl => match us, hl with | [_, _], _ => rfl⟩
  have F39 := fun_mk (st := s_last_epoch) l39 c39 k39
  have c_last_epoch : Cal l.prog w K mg base 4 "last_epoch" ["plan", "fall"] (sp_last C) := ⟨f39, _, ok_last F39 T TC M_Plan_epoch_of G_eo b_Plan_epoch_of, PySem.W.mg_of X G a39, k39, F39.binds (ps := ["plan", "fall"]) fun _ _ _ _ _ _ us hl => match us, hl with | [_, _], _ => rfl⟩
  have F40 := fun_mk (st := s_l_some) l40 c40 k40
  have c_l_some : Cal l.prog w K mg base 3 "_law_some" ["_law_pen_here", "_law_pool", "_law_most"] sp_someV := ⟨f40, _, ok_someV F40 T c_l_draw, PySem.W.mg_of X G a40, k40, F40.binds (ps := ["_law_pen_here", "_law_pool", "_law_most"]) fun _ _ _ _ _ _ us hl => match us, hl with | [_, _, _], _ => rfl⟩
  have F41 := fun_mk (st := s_l_pattern) l41 c41 k41
  have c_l_pattern : Cal l.prog w K mg base 5 "_law_pattern" ["_law_pen_here", "_law_plan_here"] sp_lpattern := ⟨f41, _, ok_lpattern F41 T t_zo c_l_draw c_l_fall c_l_left c_l_some, PySem.W.mg_of X G a41, k41, F41.binds (ps := ["_law_pen_here", "_law_plan_here"]) fun _ _ _ _ _ _ us hl => match us, hl with | [_, _], _ => rfl⟩
  have F42 := fun_mk (st := s_least_in) l42 c42 k42
  have c_least_in : Cal l.prog w K mg base 1 "_least_in" ["mask"] sp_least := ⟨f42, _, ok_least F42 T, PySem.W.mg_of X G a42, k42, F42.binds (ps := ["mask"]) fun _ _ _ _ _ _ us hl => match us, hl with | [_], _ => rfl⟩
  have F43 := fun_mk (st := s_cells_of) l43 c43 k43
  have c_cells_of : Cal l.prog w K mg base 1 "_cells_of" ["piece", "pattern"] sp_cells_of := ⟨f43, _, ok_cells_of F43 T, PySem.W.mg_of X G a43, k43, F43.binds (ps := ["piece", "pattern"]) fun _ _ _ _ _ _ us hl => match us, hl with | [_, _], _ => rfl⟩
  have F44 := fun_mk (st := s_spoiled_by) l44 c44 k44
  have c_spoiled_by : Cal l.prog w K mg base 2 "_spoiled_by" ["piece", "pattern"] sp_spoiled_by := ⟨f44, _, ok_spoiled_by F44 T c_cells_of, PySem.W.mg_of X G a44, k44, F44.binds (ps := ["piece", "pattern"]) fun _ _ _ _ _ _ us hl => match us, hl with | [_, _], _ => rfl⟩
  have G_su := ok_sure (P := l.prog) (w := w) (base := base) F_Hunt_is_sure T TU
  have G_Hunt := ok_hinit (P := l.prog) (w := w) (base := base) F_Hunt___init T TC TU P_pieces P_epochs c_mask_of c_cells_of c_spoiled_by c_overwritten c_piece_epochs c_claimed_there c_later_pieces
  have F45 := fun_mk (st := s_place) l45 c45 k45
  have c_place : Cal l.prog w K mg base 2 "_place" ["hunt", "epoch", "unsettled"] (sp_place U) := ⟨f45, _, ok_place F45 T TU c_mask_of c_is_in, PySem.W.mg_of X G a45, k45, F45.binds (ps := ["hunt", "epoch", "unsettled"]) fun _ _ _ _ _ _ us hl => match us, hl with | [_, _, _], _ => rfl⟩
  have F46 := fun_mk (st := s_go_back) l46 c46 k46
  have c_go_back : Cal l.prog w K mg base 3 "_go_back" ["hunt", "epoch"] (sp_go U) := ⟨f46, _, ok_go F46 T t_reversed t_za ⟨_, PySem.W.mg_of X G BASEa⟩ TU M_Hunt_is_sure G_su b_Hunt_is_sure c_place c_least_in, PySem.W.mg_of X G a46, k46, F46.binds (ps := ["hunt", "epoch"]) fun _ _ _ _ _ _ us hl => match us, hl with | [_, _], _ => rfl⟩
  have F47 := fun_mk (st := s_fall_behind) l47 c47 k47
  have c_fall_behind : Cal l.prog w K mg base 8 "fall_behind" ["plan", "pattern", "claims", "begun"] (sp_fb C) := ⟨f47, _, ok_fb F47 T TC TU P_epochs M_Hunt___init G_Hunt b_Hunt___init c_may_begin c_last_epoch c_misplaced_in c_go_back, PySem.W.mg_of X G a47, k47, F47.binds (ps := ["plan", "pattern", "claims", "begun"]) fun _ _ _ _ _ _ us hl => match us, hl with | [_, _, _, _], _ => rfl⟩
  have F48 := fun_mk (st := s_does_harm) l48 c48 k48
  have c_does_harm : Cal l.prog w K mg base 6 "does_harm" ["plan", "guards", "guard", "fall"] sp_never := ⟨f48, _, ok_never F48 , PySem.W.mg_of X G a48, k48, F48.binds (ps := ["plan", "guards", "guard", "fall"]) fun _ _ _ _ _ _ us hl => match us, hl with | [_, _, _, _], _ => rfl⟩
  have F49 := fun_mk (st := s_are_guards) l49 c49 k49
  have c_are_guards : Cal l.prog w K mg base 6 "are_guards" ["plan", "thing"] (sp_are_guards K C) := ⟨f49, _, ok_are_guards F49 T TC ⟨_, PySem.W.mg_of X G MOST_GUARDSa⟩ P_base c_is_pattern, PySem.W.mg_of X G a49, k49, F49.binds (ps := ["plan", "thing"]) fun _ _ _ _ _ _ us hl => match us, hl with | [_, _], _ => rfl⟩
  have F50 := fun_mk (st := s_check_guards) l50 c50 k50
  have c_check_guards : CalX l.prog w K mg base 7 "check_guards" ["plan", "guards"] (sp_check_guards K C IG) := ⟨f50, _, ok_check_guards F50 T X_IG c_are_guards, PySem.W.mg_of X G a50, k50, F50.binds (ps := ["plan", "guards"]) fun _ _ _ _ _ _ us hl => match us, hl with | [_, _], _ => rfl⟩
  have F51 := fun_mk (st := s_fall_leaving) l51 c51 k51
  have c_fall_leaving : Cal l.prog w K mg base 9 "fall_leaving" ["plan", "pattern"] (sp_leave C) := ⟨f51, _, ok_leave F51 c_fall_behind, PySem.W.mg_of X G a51, k51, F51.binds (ps := ["plan", "pattern"]) fun _ _ _ _ _ _ us hl => match us, hl with | [_, _], _ => rfl⟩
  have F52 := fun_mk (st := s_harm_to) l52 c52 k52
  have c_harm_to : Cal l.prog w K mg base 10 "harm_to" ["plan", "guards"] (sp_harm_to C) := ⟨f52, _, ok_harm_to F52 T c_fall_leaving, PySem.W.mg_of X G a52, k52, F52.binds (ps := ["plan", "guards"]) fun _ _ _ _ _ _ us hl => match us, hl with | [_, _], _ => rfl⟩
  have F53 := fun_mk (st := s_harm) l53 c53 k53
  have c_harm : CalX l.prog w K mg base 11 "harm" ["plan", "guards"] (sp_harm K C IG) := ⟨f53, _, ok_harm F53 T c_check_guards c_harm_to, PySem.W.mg_of X G a53, k53, F53.binds (ps := ["plan", "guards"]) fun _ _ _ _ _ _ us hl => match us, hl with | [_, _], _ => rfl⟩
  have F54 := fun_mk (st := s_is_harm) l54 c54 k54
  have c_is_harm : CalX l.prog w K mg base 11 "is_harm" ["plan", "guards", "thing"] (sp_is_harm K C IG) := ⟨f54, _, ok_is_harm F54 T c_check_guards c_does_harm, PySem.W.mg_of X G a54, k54, F54.binds (ps := ["plan", "guards", "thing"]) fun _ _ _ _ _ _ us hl => match us, hl with | [_, _, _], _ => rfl⟩
  have XE : ErrC K mg CF IF IP IG := ⟨PySem.W.mg_of X G gCF, PySem.W.mg_of X G gIF, PySem.W.mg_of X G gIP, PySem.W.mg_of X G gIG, m_IG, I_IG, any_no q_IG_IF (any_no q_IG_IP rfl), is_own⟩
  have F55 := fun_mk (st := s_l_bad_guards) l55 c55 k55
  have c_l_bad_guards : Cal l.prog w K mg base 3 "_law_bad_guards" ["_law_pen_here", "_law_guards_here", "_law_many"] (sp_badg K) := ⟨f55, _, ok_badg F55 T c_l_draw, PySem.W.mg_of X G a55, k55, F55.binds (ps := ["_law_pen_here", "_law_guards_here", "_law_many"]) fun _ _ _ _ _ _ us hl => match us, hl with | [_, _, _], _ => rfl⟩
  have F56 := fun_mk (st := s_l_error) l56 c56 k56
  have c_l_error : Cal l.prog w K mg base 12 "_law_error" ["_law_made", "_law_guards_here", "_law_road", "_law_thing"] (sp_error K C) := ⟨f56, _, ok_error F56 T XE c_harm c_is_harm, PySem.W.mg_of X G a56, k56, F56.binds (ps := ["_law_made", "_law_guards_here", "_law_road", "_law_thing"]) fun _ _ _ _ _ _ us hl => match us, hl with | [_, _, _, _], _ => rfl⟩
  exact ok_law (fun_mk (st := s_law) l57 c57 k57) T t_repr TC O G_eq b_Plan___eq c_l_pen c_l_draw c_l_plan c_l_plan_of c_l_pattern c_l_bad_guards c_l_error
theorem walk {l : PySem.W.OpenLaw} {q : Program} {loose : List Str} {XP : (Str → Option Value) → Heap → Prop} {YP : World → Heap → Prop} {d : DefRec} {K : Params → PySem.W.Frag} (hn : l.most = some 63) (hdf : d.params.defaults = [])
    (hY : ∀ (w : World) (h : Heap), YP w h → (K w.params).In h)
    (F : ∀ (w : World) (mg : Str → Option Value) (fa : Addr) (h : Heap), (K w.params).In h → h.Ns mainGlobals mg → mg d.name = some (.ref fa) →
      ∃ fd : FuncData, (∀ (s : Shared) (u : Value), BindsTo s fd ⟨[u], []⟩ [("_law_script", u)]) ∧ ∀ base : Heap, (K w.params).In base → base.Ns mainGlobals mg → FnG l.prog w (K w.params) mg base 13 fa fd ["_law_script"] (sp_law (K w.params))) :
    PySem.W.WalkO q loose XP YP l.row.toRowW d [] (fun f vs => PySem.call f vs) :=
  walkG (n := 63) (k := 13) (x := "_law_script") (sp := fun w => sp_law (K w.params)) hn (by decide) hdf ⟨rfl, by decide, by decide⟩ hY F fun _ _ a ns hl _ hS => ⟨a, ns, rfl, hS, fun _ => rfl⟩
end Af

open PySem PySem.W PyProof.Rows in
set_option maxRecDepth 100000 in
set_option maxHeartbeats 0 in
theorem PySem.Challenge.cw_afterfall_k37_errors_of_guards_holds : PySem.Challenge.rw_afterfall_k37_errors_of_guards.Holds := by
  w_on; o_law; k_head; (case hw => w_witness2)
  k_fill
  refine Af.walk (l := PySem.Challenge.rw_afterfall_k37_errors_of_guards) rfl rfl (fun w h Y => PySem.W.kIn_of Y) ?F
  case F =>
    intro w mg fa h KX G hmg
    refine' Af.all_mk KX G hmg ?a1 ?l1 ?c1 ?k1 ?a2 ?l2 ?c2 ?k2 ?a3 ?l3 ?c3 ?k3 ?a4 ?l4 ?c4 ?k4 ?a5 ?l5 ?c5 ?k5 ?a6 ?l6 ?c6 ?k6 ?a7 ?l7 ?c7 ?k7 ?a8 ?l8 ?c8 ?k8 ?a9 ?l9 ?c9 ?k9 ?a10 ?l10 ?c10 ?k10 ?a11 ?l11 ?c11 ?k11 ?a12 ?l12 ?c12 ?k12 ?a13 ?l13 ?c13 ?k13 ?a14 ?l14 ?c14 ?k14 ?a15 ?l15 ?c15 ?k15 ?a16 ?l16 ?c16 ?k16 ?a17 ?l17 ?c17 ?k17 ?a18 ?l18 ?c18 ?k18 ?a19 ?l19 ?c19 ?k19 ?a20 ?l20 ?c20 ?k20 ?a21 ?l21 ?c21 ?k21 ?a22 ?l22 ?c22 ?k22 ?a23 ?l23 ?c23 ?k23 ?a24 ?l24 ?c24 ?k24 ?a25 ?l25 ?c25 ?k25 ?a26 ?l26 ?c26 ?k26 ?a27 ?l27 ?c27 ?k27 ?a28 ?l28 ?c28 ?k28 ?a29 ?l29 ?c29 ?k29 ?a30 ?l30 ?c30 ?k30 ?a31 ?l31 ?c31 ?k31 ?a32 ?l32 ?c32 ?k32 ?a33 ?l33 ?c33 ?k33 ?a34 ?l34 ?c34 ?k34 ?a35 ?l35 ?c35 ?k35 ?a36 ?l36 ?c36 ?k36 ?a37 ?l37 ?c37 ?k37 ?a38 ?l38 ?c38 ?k38 ?a39 ?l39 ?c39 ?k39 ?a40 ?l40 ?c40 ?k40 ?a41 ?l41 ?c41 ?k41 ?a42 ?l42 ?c42 ?k42 ?a43 ?l43 ?c43 ?k43 ?a44 ?l44 ?c44 ?k44 ?a45 ?l45 ?c45 ?k45 ?a46 ?l46 ?c46 ?k46 ?a47 ?l47 ?c47 ?k47 ?a48 ?l48 ?c48 ?k48 ?a49 ?l49 ?c49 ?k49 ?a50 ?l50 ?c50 ?k50 ?a51 ?l51 ?c51 ?k51 ?a52 ?l52 ?c52 ?k52 ?a53 ?l53 ?c53 ?k53 ?a54 ?l54 ?c54 ?k54 ?a55 ?l55 ?c55 ?k55 ?a56 ?l56 ?c56 ?k56 ?a57 ?l57 ?c57 ?k57 ?aC ?a58 ?i58 ?l58 ?c58 ?k58 ?a59 ?i59 ?l59 ?c59 ?k59 ?a60 ?i60 ?l60 ?c60 ?k60 ?a61 ?i61 ?j61 ?r61 ?l61 ?c61 ?k61 ?a62 ?i62 ?j62 ?r62 ?l62 ?c62 ?k62 ?a63 ?i63 ?j63 ?r63 ?l63 ?c63 ?k63 ?a64 ?i64 ?j64 ?r64 ?l64 ?c64 ?k64 ?a65 ?i65 ?j65 ?r65 ?l65 ?c65 ?k65 ?pg ?hd ?po ?sa ?mk ?kc ?ic ?tc ?ha ?hn ?htk ?hm ?hne ?n0 ?n1 ?n2 ?n3 ?n4 ?n5 ?aCU ?a66 ?i66 ?l66 ?c66 ?k66 ?a67 ?i67 ?l67 ?c67 ?k67 ?pgU ?hdU ?poU ?saU ?mkU ?kcU ?nU0 ?nU1 ?nU2 ?nU3 ?nU4 ?nU5 ?nU6 ?nU7 ?gCF ?gCE ?gIF ?gIP ?gIG ?yb ?yd ?yt ?c1IF ?c2IF ?c1IP ?c2IP ?xxCE ?xkCE ?xbCE ?xtCE ?xdCE ?xcCE ?xmCE ?xgaCE ?xgtCE ?yeCE ?xxIG ?xkIG ?xbIG ?xtIG ?xdIG ?xcIG ?xmIG ?xgaIG ?xgtIG ?yeIG ?noIGIF ?neIGIF ?noIGIP ?neIGIP ?zr ?z0 ?z1 ?z2 ?z3 ?z4 ?z5 ?z6 ?z7 ?z8 ?z9 ?z10 ?zs ?za ?zu ?zo ?dict ?reversed ?m0 ?m1 ?m2 ?BASEa ?MOST_GUARDSa ?u0 ?w0 ?x0 ?y0
    (case a1 => k_is)
    (case l1 => k_is)
    (case c1 => k_is)
    (case k1 => k_is)
    (case a2 => k_is)
    (case l2 => k_is)
    (case c2 => k_is)
    (case k2 => k_is)
    (case a3 => k_is)
    (case l3 => k_is)
    (case c3 => k_is)
    (case k3 => k_is)
    (case a4 => k_is)
    (case l4 => k_is)
    (case c4 => k_is)
    (case k4 => k_is)
    (case a5 => k_is)
    (case l5 => k_is)
    (case c5 => k_is)
    (case k5 => k_is)
    (case a6 => k_is)
    (case l6 => k_is)
    (case c6 => k_is)
    (case k6 => k_is)
    (case a7 => k_is)
    (case l7 => k_is)
    (case c7 => k_is)
    (case k7 => k_is)
    (case a8 => k_is)
    (case l8 => k_is)
    (case c8 => k_is)
    (case k8 => k_is)
    (case a9 => k_is)
    (case l9 => k_is)
    (case c9 => k_is)
    (case k9 => k_is)
    (case a10 => k_is)
    (case l10 => k_is)
    (case c10 => k_is)
    (case k10 => k_is)
    (case a11 => k_is)
    (case l11 => k_is)
    (case c11 => k_is)
    (case k11 => k_is)
    (case a12 => k_is)
    (case l12 => k_is)
    (case c12 => k_is)
    (case k12 => k_is)
    (case a13 => k_is)
    (case l13 => k_is)
    (case c13 => k_is)
    (case k13 => k_is)
    (case a14 => k_is)
    (case l14 => k_is)
    (case c14 => k_is)
    (case k14 => k_is)
    (case a15 => k_is)
    (case l15 => k_is)
    (case c15 => k_is)
    (case k15 => k_is)
    (case a16 => k_is)
    (case l16 => k_is)
    (case c16 => k_is)
    (case k16 => k_is)
    (case a17 => k_is)
    (case l17 => k_is)
    (case c17 => k_is)
    (case k17 => k_is)
    (case a18 => k_is)
    (case l18 => k_is)
    (case c18 => k_is)
    (case k18 => k_is)
    (case a19 => k_is)
    (case l19 => k_is)
    (case c19 => k_is)
    (case k19 => k_is)
    (case a20 => k_is)
    (case l20 => k_is)
    (case c20 => k_is)
    (case k20 => k_is)
    (case a21 => k_is)
    (case l21 => k_is)
    (case c21 => k_is)
    (case k21 => k_is)
    (case a22 => k_is)
    (case l22 => k_is)
    (case c22 => k_is)
    (case k22 => k_is)
    (case a23 => k_is)
    (case l23 => k_is)
    (case c23 => k_is)
    (case k23 => k_is)
    (case a24 => k_is)
    (case l24 => k_is)
    (case c24 => k_is)
    (case k24 => k_is)
    (case a25 => k_is)
    (case l25 => k_is)
    (case c25 => k_is)
    (case k25 => k_is)
    (case a26 => k_is)
    (case l26 => k_is)
    (case c26 => k_is)
    (case k26 => k_is)
    (case a27 => k_is)
    (case l27 => k_is)
    (case c27 => k_is)
    (case k27 => k_is)
    (case a28 => k_is)
    (case l28 => k_is)
    (case c28 => k_is)
    (case k28 => k_is)
    (case a29 => k_is)
    (case l29 => k_is)
    (case c29 => k_is)
    (case k29 => k_is)
    (case a30 => k_is)
    (case l30 => k_is)
    (case c30 => k_is)
    (case k30 => k_is)
    (case a31 => k_is)
    (case l31 => k_is)
    (case c31 => k_is)
    (case k31 => k_is)
    (case a32 => k_is)
    (case l32 => k_is)
    (case c32 => k_is)
    (case k32 => k_is)
    (case a33 => k_is)
    (case l33 => k_is)
    (case c33 => k_is)
    (case k33 => k_is)
    (case a34 => k_is)
    (case l34 => k_is)
    (case c34 => k_is)
    (case k34 => k_is)
    (case a35 => k_is)
    (case l35 => k_is)
    (case c35 => k_is)
    (case k35 => k_is)
    (case a36 => k_is)
    (case l36 => k_is)
    (case c36 => k_is)
    (case k36 => k_is)
    (case a37 => k_is)
    (case l37 => k_is)
    (case c37 => k_is)
    (case k37 => k_is)
    (case a38 => k_is)
    (case l38 => k_is)
    (case c38 => k_is)
    (case k38 => k_is)
    (case a39 => k_is)
    (case l39 => k_is)
    (case c39 => k_is)
    (case k39 => k_is)
    (case a40 => k_is)
    (case l40 => k_is)
    (case c40 => k_is)
    (case k40 => k_is)
    (case a41 => k_is)
    (case l41 => k_is)
    (case c41 => k_is)
    (case k41 => k_is)
    (case a42 => k_is)
    (case l42 => k_is)
    (case c42 => k_is)
    (case k42 => k_is)
    (case a43 => k_is)
    (case l43 => k_is)
    (case c43 => k_is)
    (case k43 => k_is)
    (case a44 => k_is)
    (case l44 => k_is)
    (case c44 => k_is)
    (case k44 => k_is)
    (case a45 => k_is)
    (case l45 => k_is)
    (case c45 => k_is)
    (case k45 => k_is)
    (case a46 => k_is)
    (case l46 => k_is)
    (case c46 => k_is)
    (case k46 => k_is)
    (case a47 => k_is)
    (case l47 => k_is)
    (case c47 => k_is)
    (case k47 => k_is)
    (case a48 => k_is)
    (case l48 => k_is)
    (case c48 => k_is)
    (case k48 => k_is)
    (case a49 => k_is)
    (case l49 => k_is)
    (case c49 => k_is)
    (case k49 => k_is)
    (case a50 => k_is)
    (case l50 => k_is)
    (case c50 => k_is)
    (case k50 => k_is)
    (case a51 => k_is)
    (case l51 => k_is)
    (case c51 => k_is)
    (case k51 => k_is)
    (case a52 => k_is)
    (case l52 => k_is)
    (case c52 => k_is)
    (case k52 => k_is)
    (case a53 => k_is)
    (case l53 => k_is)
    (case c53 => k_is)
    (case k53 => k_is)
    (case a54 => k_is)
    (case l54 => k_is)
    (case c54 => k_is)
    (case k54 => k_is)
    (case a55 => k_is)
    (case l55 => k_is)
    (case c55 => k_is)
    (case k55 => k_is)
    (case a56 => k_is)
    (case l56 => k_is)
    (case c56 => k_is)
    (case k56 => k_is)
    (case a57 => k_is)
    (case l57 => k_is)
    (case c57 => k_is)
    (case k57 => k_is)
    (case aC => k_is)
    (case a58 => k_is)
    (case i58 => k_is)
    (case l58 => k_is)
    (case c58 => k_is)
    (case k58 => k_is)
    (case a59 => k_is)
    (case i59 => k_is)
    (case l59 => k_is)
    (case c59 => k_is)
    (case k59 => k_is)
    (case a60 => k_is)
    (case i60 => k_is)
    (case l60 => k_is)
    (case c60 => k_is)
    (case k60 => k_is)
    (case a61 => k_is)
    (case i61 => k_is)
    (case j61 => k_is)
    (case r61 => k_is)
    (case l61 => k_is)
    (case c61 => k_is)
    (case k61 => k_is)
    (case a62 => k_is)
    (case i62 => k_is)
    (case j62 => k_is)
    (case r62 => k_is)
    (case l62 => k_is)
    (case c62 => k_is)
    (case k62 => k_is)
    (case a63 => k_is)
    (case i63 => k_is)
    (case j63 => k_is)
    (case r63 => k_is)
    (case l63 => k_is)
    (case c63 => k_is)
    (case k63 => k_is)
    (case a64 => k_is)
    (case i64 => k_is)
    (case j64 => k_is)
    (case r64 => k_is)
    (case l64 => k_is)
    (case c64 => k_is)
    (case k64 => k_is)
    (case a65 => k_is)
    (case i65 => k_is)
    (case j65 => k_is)
    (case r65 => k_is)
    (case l65 => k_is)
    (case c65 => k_is)
    (case k65 => k_is)
    (case pg => k_is)
    (case hd => k_is)
    (case po => k_is)
    (case sa => k_is)
    (case mk => k_is)
    (case kc => k_is)
    (case ic => k_is)
    (case tc => k_is)
    (case ha => k_is)
    (case hn => k_is)
    (case htk => k_is)
    (case hm => k_is)
    (case hne => k_is)
    (case n0 => k_is)
    (case n1 => k_is)
    (case n2 => k_is)
    (case n3 => k_is)
    (case n4 => k_is)
    (case n5 => k_is)
    (case aCU => k_is)
    (case a66 => k_is)
    (case i66 => k_is)
    (case l66 => k_is)
    (case c66 => k_is)
    (case k66 => k_is)
    (case a67 => k_is)
    (case i67 => k_is)
    (case l67 => k_is)
    (case c67 => k_is)
    (case k67 => k_is)
    (case pgU => k_is)
    (case hdU => k_is)
    (case poU => k_is)
    (case saU => k_is)
    (case mkU => k_is)
    (case kcU => k_is)
    (case nU0 => k_is)
    (case nU1 => k_is)
    (case nU2 => k_is)
    (case nU3 => k_is)
    (case nU4 => k_is)
    (case nU5 => k_is)
    (case nU6 => k_is)
    (case nU7 => k_is)
    (case gCF => k_is)
    (case gCE => k_is)
    (case gIF => k_is)
    (case gIP => k_is)
    (case gIG => k_is)
    (case yb => k_is)
    (case yd => k_is)
    (case yt => k_is)
    (case c1IF => k_is)
    (case c2IF => k_is)
    (case c1IP => k_is)
    (case c2IP => k_is)
    (case xxCE => k_exc)
    (case xkCE => k_is)
    (case xbCE => k_is)
    (case xtCE => k_is)
    (case xdCE => k_is)
    (case xcCE => k_is)
    (case xmCE => k_is)
    (case xgaCE => k_is)
    (case xgtCE => k_is)
    (case yeCE => k_is)
    (case xxIG => k_exc)
    (case xkIG => k_is)
    (case xbIG => k_is)
    (case xtIG => k_is)
    (case xdIG => k_is)
    (case xcIG => k_is)
    (case xmIG => k_is)
    (case xgaIG => k_is)
    (case xgtIG => k_is)
    (case yeIG => k_is)
    (case noIGIF => k_is)
    (case neIGIF => decide)
    (case noIGIP => k_is)
    (case neIGIP => decide)
    (case zr => k_is)
    (case z0 => k_is)
    (case z1 => k_is)
    (case z2 => k_is)
    (case z3 => k_is)
    (case z4 => k_is)
    (case z5 => k_is)
    (case z6 => k_is)
    (case z7 => k_is)
    (case z8 => k_is)
    (case z9 => k_is)
    (case z10 => k_is)
    (case zs => k_is)
    (case za => k_is)
    (case zu => k_is)
    (case zo => k_is)
    (case dict => k_is)
    (case reversed => k_is)
    (case m0 => k_is)
    (case m1 => k_is)
    (case m2 => k_is)
    (case BASEa => k_is)
    (case MOST_GUARDSa => k_is)
    (case u0 => k_is)
    (case w0 => k_is)
    (case x0 => decide)
    (case y0 => exact .cons ⟨_, rfl⟩ (.cons ⟨_, rfl⟩ (.cons ⟨_, rfl⟩ (.cons ⟨_, rfl⟩ (.cons ⟨_, rfl⟩ (.cons ⟨_, rfl⟩ (.cons ⟨_, rfl⟩ (.cons ⟨_, rfl⟩ .nil))))))))

